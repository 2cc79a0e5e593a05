"""The calls: what is asked of a piece of work, answered as a list of whole numbers."""

from brokenlines.errors import NoSuchPlace, OutOfRange, TooManyLines, WrongFont
from brokenlines.laid import Page
from brokenlines.script import Script
from brokenlines.shaping import shape_line
from brokenlines.standing import stands_of
from brokenlines.work import are_in, read_work

MOST_LINES = 8192
FARTHEST = 16777216


def answered(call, five, spans, boxes, bands, text, fonts):
    try:
        return call(read_work(five, spans, boxes, bands, text, fonts))
    except OutOfRange:
        return [-8]
    except WrongFont as wrong:
        return [-2 - wrong.row - 100000 * wrong.number]
    except NoSuchPlace:
        return [-5]
    except TooManyLines:
        return [-6]


def told_lines(work):
    page = Page(work)
    if page.lines_in_all() > MOST_LINES:
        raise TooManyLines()
    answer = []
    number = 0
    for laid in page.laid_lines():
        line = laid.line
        while number < line.number:
            answer.extend([line.start, line.start, 0, 0, page.column.y_of(number), 0])
            number += 1
        y = page.column.y_of(number)
        answer.extend([line.start, line.stop, laid.begin, laid.width, y, laid.too_wide])
        number += 1
    return [number] + answer


def told_letters(work):
    page = Page(work)
    answer = []
    count = 0
    for laid in page.laid_lines():
        y = page.column.y_of(laid.line.number)
        for glyph in laid.glyphs:
            answer.extend([laid.line.number, glyph.owner, glyph.letter, glyph.place])
            answer.extend([laid.begin + glyph.x, y - glyph.up])
            count += 1
    return [count] + answer


def told_caret(work, place):
    if place > len(work.codes):
        raise NoSuchPlace()
    page = Page(work)
    line = page.line_with(place)
    stands = stands_of(page.laid_line(line))
    top = page.column.top_of(line.number)
    return [line.number, stands[place - line.start], top, top + page.column.high]


# A line's end is a place of it only where no line follows.
def told_at(work, x, y):
    page = Page(work)
    if not page.lines:
        return [0]
    line = page.line_at(y)
    stands = stands_of(page.laid_line(line))
    if line.stop < page.stop or page.ends_with_line():
        stands.pop()
    distances = [abs(stand - x) for stand in stands]
    return [line.start + distances.index(min(distances))]


# Nothing is broken for this: what the column and its bands leave of lines has no part in it.
def told_widths(work):
    script = Script(work)
    least = 0
    most = 0
    for paragraph in script.paragraphs:
        most = max(most, shape_line(script, paragraph.start, paragraph.stop).width)
        start = paragraph.start
        for stop in script.line_ends(paragraph):
            least = max(least, shape_line(script, start, stop).width)
            start = stop
    return [0, least, most]


def told_heights(work):
    page = Page(work)
    column = page.column
    return [0, column.high, column.up, column.down, column.gap, column.top_of(page.lines_in_all())]


def lines(side, wide, indent, setting, way, spans, boxes, bands, text, fonts):
    return answered(told_lines, [side, wide, indent, setting, way], spans, boxes, bands, text, fonts)


def letters(side, wide, indent, setting, way, spans, boxes, bands, text, fonts):
    return answered(told_letters, [side, wide, indent, setting, way], spans, boxes, bands, text, fonts)


def caret(side, wide, indent, setting, way, p, spans, boxes, bands, text, fonts):
    five = [side, wide, indent, setting, way]
    return answered(lambda work: told_caret(work, p), five, spans, boxes, bands, text, fonts)


def at(side, wide, indent, setting, way, x, y, spans, boxes, bands, text, fonts):
    if not are_in([x, y], -FARTHEST, FARTHEST):
        return [-8]
    five = [side, wide, indent, setting, way]
    return answered(lambda work: told_at(work, x, y), five, spans, boxes, bands, text, fonts)


def widths(side, wide, indent, setting, way, spans, boxes, bands, text, fonts):
    return answered(told_widths, [side, wide, indent, setting, way], spans, boxes, bands, text, fonts)


def heights(side, wide, indent, setting, way, spans, boxes, bands, text, fonts):
    return answered(told_heights, [side, wide, indent, setting, way], spans, boxes, bands, text, fonts)
