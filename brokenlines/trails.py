"""Where lines came from, line by line down to the bands' end, so that ways can be gone back."""

from brokenlines.counting import count_below


# Lines one behind another that may begin at one place. Ways are gone back from line to line: ahead is how much further
# down the line lies from which this one was come to.
class Spread:
    def __init__(self, low, high, ahead):
        self.low = low
        self.high = high
        self.ahead = ahead


def spreads_of(lines):
    spreads = []
    for line in lines:
        if spreads and spreads[-1].high == line - 1:
            spread = spreads[-1]
            spread.high = line
        else:
            spreads.append(Spread(line, line, 0))
    return spreads


# For each place the lines from which on the line before begins elsewhere, and where: from line to line that is mostly
# the same. Jumps are over lines that were left empty.
class Trail:
    def __init__(self):
        self.lines = {}
        self.befores = {}
        self.jumps = {}

    # Of each start and the beginning of the line before it.
    def keep_all(self, line, kept):
        for start, before in kept:
            befores = self.befores.get(start)
            if befores is None:
                self.lines[start] = [line]
                self.befores[start] = [before]
            elif befores[-1] != before:
                self.lines[start].append(line)
                befores.append(before)

    def keep_jump(self, line, start, before, line_before):
        self.jumps[(line, start)] = line_before
        self.lines.setdefault(start, []).append(line)
        self.befores.setdefault(start, []).append(before)

    def line_before(self, line, start):
        index = count_below(self.lines[start], line + 1) - 1
        return (self.jumps.get((line, start), line - 1), self.befores[start][index])

    # What a spread was reached from: for each part of it the place, and the lines there.
    def parts_of(self, start, spread):
        lines = self.lines[start]
        index = count_below(lines, spread.low + 1) - 1
        parts = []
        low = spread.low
        while low <= spread.high:
            if index + 1 < len(lines) and lines[index + 1] == low:
                index += 1
            line = self.jumps.get((low, start))
            high = spread.high if line is None else low
            if index + 1 < len(lines):
                high = min(high, lines[index + 1] - 1)
            if line is None:
                line = low - 1
            parts.append((self.befores[start][index], Spread(line, line + high - low, spread.ahead + low - line)))
            low = high + 1
        return parts

    # Of these lines, each of which may begin at this place, the one whose lines before begin latest, from the last
    # one back. Those that are left empty don't count. Ways that begin all lines alike would be the same, so at
    # last one is left.
    def best_of(self, start, lines):
        spreads = spreads_of(lines)
        while len(spreads) > 1 or spreads[0].low < spreads[0].high:
            parts = []
            for spread in spreads:
                parts.extend(self.parts_of(start, spread))
            start = max([part[0] for part in parts])
            spreads = [part[1] for part in parts if part[0] == start]
        return spreads[0].low + spreads[0].ahead
