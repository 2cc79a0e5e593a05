"""The calls: what is asked of a piece of work, answered as a list of whole numbers."""

from brokenlines.errors import OutOfRange, TooManyLines, WrongFont
from brokenlines.laid import Page
from brokenlines.work import read_work

MOST_LINES = 8192


def answered(call, five, spans, boxes, bands, text, fonts):
    try:
        return call(Page(read_work(five, spans, boxes, bands, text, fonts)))
    except OutOfRange:
        return [-8]
    except WrongFont as wrong:
        return [-2 - wrong.row - 100000 * wrong.number]
    except TooManyLines:
        return [-6]


def told_lines(page):
    if page.lines and page.lines[-1].number >= MOST_LINES:
        raise TooManyLines()
    answer = []
    number = 0
    for laid in page.laid_lines():
        line = laid.line
        while number < line.number:
            answer.extend([line.start, line.start, 0, 0, page.column.y_of(number), 0])
            number += 1
        y = page.column.y_of(number)
        answer.extend([line.start, line.stop, laid.begin, laid.width, y, laid.too_wide])
        number += 1
    return [number] + answer


def told_letters(page):
    answer = []
    count = 0
    for laid in page.laid_lines():
        y = page.column.y_of(laid.line.number)
        for glyph in laid.glyphs:
            answer.extend([laid.line.number, glyph.owner, glyph.letter, glyph.place])
            answer.extend([laid.begin + glyph.x, y - glyph.up])
            count += 1
    return [count] + answer


def lines(side, wide, indent, setting, way, spans, boxes, bands, text, fonts):
    return answered(told_lines, [side, wide, indent, setting, way], spans, boxes, bands, text, fonts)


def letters(side, wide, indent, setting, way, spans, boxes, bands, text, fonts):
    return answered(told_letters, [side, wide, indent, setting, way], spans, boxes, bands, text, fonts)
