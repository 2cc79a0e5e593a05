"""Pieces of work for the tests."""

from brokenlines.laying import at, caret, heights, letters, lines, widths

ALEF, BET = 1488, 1489
ACUTE, HAT = 769, 770
SHY, BOX = 173, 65532
LI, RI, FI, PI = 8294, 8295, 8296, 8297


def font(*rows):
    return list("".join(row + "\n" for row in rows).encode())


# At size 10 a unit is a step. Lines are 11 high, their 0 is 8 below their top.
ROWS = (
    "font 10 8 2 1",
    "letter no 10",      # 0
    "letter a 10",       # 1
    "letter b 20",       # 2
    "letter sp 5",       # 3
    "letter hy 4",       # 4
    "letter f 6",        # 5
    "letter i 4",        # 6
    "letter fi 9",       # 7
    "letter acute 0",    # 8
    "letter hat 3",      # 9
    "letter alef 12",    # 10
    "letter bet 14",     # 11
    "letter left 3",     # 12
    "letter right 7",    # 13
    "letter one 8",      # 14
    "letter z 0",        # 15
    "char 97 a", "char 98 b", "char 32 sp", "char 45 hy", "char 102 f", "char 105 i", "char 769 acute",
    "char 770 hat", "char 1488 alef", "char 1489 bet", "char 40 left", "char 41 right", "char 49 one",
    "char 19968 a", "char 19969 z",
    "pair a b -2", "pair alef bet 3",
    "join f i fi",
    "base a 0 5 8", "base alef 0 6 9", "base sp 0 2 3",
    "mark acute 0 1 7", "mark hat 1 2 0",
)
FONT = font(*ROWS)
HIGH, UP = 11, 8


def codes(text):
    return [ord(sign) for sign in text] if isinstance(text, str) else list(text)


def piece(text, side=0, wide=1000, indent=0, setting=0, way=0, spans=None, boxes=(), bands=(), fonts=None):
    text = codes(text)
    if spans is None:
        spans = [len(text), 0, 10]
    return [side, wide, indent, setting, way, list(spans), list(boxes), list(bands), text, fonts or [FONT]]


def sixes(answer):
    rows = [tuple(answer[at:at + 6]) for at in range(1, len(answer), 6)]
    assert answer[0] == len(rows) and all(len(row) == 6 for row in rows), answer
    return rows


def lines_of(text, **named):
    return sixes(lines(*piece(text, **named)))


def letters_of(text, **named):
    return sixes(letters(*piece(text, **named)))


def cuts_of(text, **named):
    return [row[:2] for row in lines_of(text, **named)]


def caret_of(text, place, **named):
    given = piece(text, **named)
    return caret(*given[:5], place, *given[5:])


def stands_of(text, **named):
    """The line and x of each place, up to the text's end."""
    return [tuple(caret_of(text, place, **named)[:2]) for place in range(len(codes(text)) + 1)]


def xs_of(text, **named):
    """The x of each place, all in line 0."""
    found = stands_of(text, **named)
    assert all(line == 0 for line, x in found), found
    return [x for line, x in found]


def at_of(text, x, y, **named):
    given = piece(text, **named)
    answer = at(*given[:5], x, y, *given[5:])
    assert len(answer) == 1, answer
    return answer[0]


def widths_of(text, **named):
    answer = widths(*piece(text, **named))
    assert len(answer) == 3 and answer[0] == 0, answer
    return tuple(answer[1:])


def heights_of(text, **named):
    answer = heights(*piece(text, **named))
    assert len(answer) == 6 and answer[0] == 0, answer
    return tuple(answer[1:])
