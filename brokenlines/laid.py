"""A work's lines, broken and laid in their column."""

from brokenlines.breaking import first_cuts
from brokenlines.column import Column
from brokenlines.even import even_cuts
from brokenlines.measure import Measure
from brokenlines.script import Script
from brokenlines.shaping import shape_line


class Line:
    def __init__(self, number, start, stop):
        self.number = number
        self.start = start
        self.stop = stop
        self.side = 0
        self.is_first = False
        self.is_last = False


class LaidLine:
    def __init__(self, line, shape, begin, too_wide):
        self.line = line
        self.glyphs = shape.glyphs
        self.width = shape.width
        self.begin = begin
        self.too_wide = too_wide


def paragraph_lines(script, paragraph, column, way, number):
    measure = Measure(script, paragraph)
    cuts = even_cuts(measure, column, number) if way == 1 else first_cuts(measure, column, number)
    lines = []
    for cut in cuts:
        line = Line(cut.line, measure.places[cut.start], measure.places[cut.stop])
        line.side = paragraph.side
        line.is_first = cut.start == 0
        line.is_last = cut.stop == measure.last
        lines.append(line)
    return lines


def broken(script, column, way):
    lines = []
    for paragraph in script.paragraphs:
        number = lines[-1].number + 1 if lines else 0
        lines.extend(paragraph_lines(script, paragraph, column, way, number))
    return lines


# Whether there are blanks to widen. A mark on a blank moves with what is behind the blank; its spot stays as wide as
# the blank was.
def widened(script, shape, rest):
    count = len([glyph for glyph in shape.glyphs if script.codes[glyph.place] == 32])
    if count == 0:
        return False
    over = rest % count
    added = 0
    for glyph in shape.glyphs:
        glyph.move(added)
        if script.codes[glyph.place] == 32:
            more = rest // count + (1 if over > 0 else 0)
            over -= 1
            added += more
            glyph.widen(more)
    shape.width += rest
    return True


def share_of(rest, setting, side):
    if setting == 2:
        return rest // 2
    is_right = side == 0 if setting == 1 else side == 1
    return rest if is_right else 0


def lay_line(script, column, setting, line):
    shape = shape_line(script, line.start, line.stop)
    rest = column.room_of_line(line.number, line.is_first) - shape.width
    too_wide = 1 if rest < 0 else 0
    if setting == 3 and rest > 0 and not line.is_last and widened(script, shape, rest):
        rest = 0
    begin = column.left_of(line.number) + share_of(rest, setting, line.side)
    if line.is_first and line.side == 0:
        begin += column.indent
    return LaidLine(line, shape, begin, too_wide)


class Page:
    def __init__(self, work):
        self.side = work.side
        self.setting = work.setting
        self.script = Script(work)
        self.column = Column(work)
        self.lines = broken(self.script, self.column, work.way)
        self.stop = len(work.codes)

    # With those that are left empty, up to the last that isn't.
    def lines_in_all(self):
        return self.lines[-1].number + 1 if self.lines else 0

    def laid_line(self, line):
        return lay_line(self.script, self.column, self.setting, line)

    def laid_lines(self):
        return [self.laid_line(line) for line in self.lines]

    # Whether one stands in a line of its own at the text's end.
    def ends_with_line(self):
        return self.stop == 0 or self.script.codes[-1] == 10

    # The line at the text's end in which there is nothing: a paragraph would begin there.
    def line_behind(self):
        line = Line(self.lines_in_all(), self.stop, self.stop)
        line.side = self.side % 2
        if self.script.paragraphs:
            line.side = self.script.paragraphs[-1].side
        line.is_first = True
        line.is_last = True
        return line

    # The line in which one stands before this place.
    def line_with(self, place):
        if place == self.stop and self.ends_with_line():
            return self.line_behind()
        for line in self.lines:
            if place < line.stop:
                return line
        return self.lines[-1]

    # The line that has this height, or the next that isn't empty, or the last.
    def line_at(self, y):
        for line in self.lines:
            if y < self.column.top_of(line.number + 1):
                return line
        return self.lines[-1]
