"""Where one stands before each character of a line."""


# For each of the line's places, and for the one behind them all. Before a character without a letter one stands
# behind the nearest one that has a letter, or at the line's beginning.
def stands_of(laid):
    ahead = {}
    behind = {}
    for glyph in laid.glyphs:
        for number, place in enumerate(glyph.places):
            ahead[place] = glyph.edge_ahead(number)
            behind[place] = glyph.edge_behind()
    x = 0 if laid.line.side == 0 else laid.width
    stands = []
    for place in range(laid.line.start, laid.line.stop):
        stands.append(laid.begin + ahead.get(place, x))
        x = behind.get(place, x)
    stands.append(laid.begin + x)
    return stands
