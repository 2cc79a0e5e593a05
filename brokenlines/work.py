"""A piece of work: what is handed in, looked over and read."""

from brokenlines.errors import OutOfRange
from brokenlines.fonts import Face, read_font
from brokenlines.signs import BOX

MOST_CHARACTERS = 4096
MOST_BANDS = 64
LARGEST_SIDE = 2
LARGEST_SETTING = 3
LARGEST_WAY = 1
LARGEST_SIZE = 65536
LARGEST_BOX = 1048576
LARGEST_INDENT = 1048576
LARGEST_BAND = 16777216
LARGEST_WIDE = 16777216


class Span:
    def __init__(self, long, number, size):
        self.long = long
        self.number = number
        self.size = size


class Box:
    def __init__(self, wide, up, down):
        self.wide = wide
        self.up = up
        self.down = down


class Band:
    def __init__(self, top, bottom, left, right):
        self.top = top
        self.bottom = bottom
        self.left = left
        self.right = right


class Work:
    def __init__(self, side, wide, indent, setting, way):
        self.side = side
        self.wide = wide
        self.indent = indent
        self.setting = setting
        self.way = way
        self.codes = []
        self.spans = []
        self.boxes = []
        self.bands = []
        self.faces = []


def is_in(number, low, high):
    return low <= number <= high


def are_in(numbers, low, high):
    return all([low <= number <= high for number in numbers])


def is_text(codes):
    if len(codes) > MOST_CHARACTERS or not are_in(codes, 0, 1114111):
        return False
    return not any([55296 <= code <= 57343 for code in codes])


def fits_text(spans, codes, fonts):
    for span in spans:
        if not is_in(span.number, 0, len(fonts) - 1) or not is_in(span.size, 1, LARGEST_SIZE):
            return False
    return sum([span.long for span in spans]) == len(codes)


def is_right(work, boxes, bands, fonts):
    if not is_in(work.side, 0, LARGEST_SIDE) or not is_in(work.wide, 0, LARGEST_WIDE):
        return False
    if not is_in(work.indent, 0, LARGEST_INDENT) or not is_in(work.setting, 0, LARGEST_SETTING):
        return False
    if not is_in(work.way, 0, LARGEST_WAY) or not is_in(len(fonts), 1, 4):
        return False
    if not are_in(boxes, 0, LARGEST_BOX) or not are_in(bands, 0, LARGEST_BAND):
        return False
    if len(work.bands) > MOST_BANDS or not is_text(work.codes):
        return False
    return len(work.boxes) == work.codes.count(BOX) and fits_text(work.spans, work.codes, fonts)


def read_spans(numbers):
    return [Span(numbers[at], numbers[at + 1], numbers[at + 2]) for at in range(0, len(numbers), 3)]


def read_boxes(numbers):
    return [Box(numbers[at], numbers[at + 1], numbers[at + 2]) for at in range(0, len(numbers), 3)]


def read_bands(numbers):
    bands = []
    for at in range(0, len(numbers), 4):
        bands.append(Band(numbers[at], numbers[at + 1], numbers[at + 2], numbers[at + 3]))
    return bands


# Numbers come ahead of fonts, for a number out of its range is refused first.
def read_work(five, spans, boxes, bands, text, fonts):
    work = Work(five[0], five[1], five[2], five[3], five[4])
    work.codes = list(text)
    work.spans = read_spans(spans)
    work.boxes = read_boxes(boxes)
    work.bands = read_bands(bands)
    if not is_right(work, boxes, bands, fonts):
        raise OutOfRange()
    known = [read_font(data, number) for number, data in enumerate(fonts)]
    work.faces = [Face(known[span.number], span.size) for span in work.spans]
    return work
