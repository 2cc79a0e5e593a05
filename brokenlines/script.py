"""A work's text made ready: classes, paragraphs, levels, letters, and where stretches begin."""

from brokenlines.levels import read_paragraphs
from brokenlines.signs import BOX, classes_of, may_end

MIRRORED = {40: 41, 41: 40, 60: 62, 62: 60, 91: 93, 93: 91, 123: 125, 125: 123}
WITHOUT_LETTERS = (10, 173, 8294, 8295, 8296, 8297, 65532)


class Script:
    def __init__(self, work):
        self.codes = work.codes
        self.faces = work.faces
        self.boxes = work.boxes
        self.kinds = classes_of(work.codes)
        self.levels = [0] * len(work.codes)
        self.paragraphs = read_paragraphs(self.kinds, work.side, self.levels)
        self.owners = owners_of(work.spans)
        self.box_numbers = box_numbers_of(work.codes)
        self.letters = [self.letter_at(place) for place in range(len(work.codes))]
        self.begins = [self.begins_at(place) for place in range(len(work.codes))]

    def face_at(self, place):
        return self.faces[self.owners[place]]

    # None where there is no letter of the font's. A 173 within a line has none; a line's last one is asked apart.
    def letter_at(self, place):
        code = self.codes[place]
        if code in WITHOUT_LETTERS:
            return None
        if self.levels[place] % 2 == 1:
            code = MIRRORED.get(code, code)
        return self.face_at(place).font.letter_for(code)

    def hyphen_at(self, place):
        return self.face_at(place).font.letter_for(45)

    # Whether another stretch begins here than the one before was in.
    def begins_at(self, place):
        if place == 0 or self.codes[place - 1] == 10:
            return True
        if self.codes[place] == BOX or self.codes[place - 1] == BOX:
            return True
        return self.owners[place] != self.owners[place - 1] or self.levels[place] != self.levels[place - 1]

    # Where the hanging end of the line begins.
    def end_of_letters(self, start, stop):
        while stop > start and self.codes[stop - 1] in (10, 32):
            stop -= 1
        return stop

    def line_ends(self, paragraph):
        places = []
        for place in range(paragraph.start, paragraph.stop):
            if may_end(self.codes, self.kinds, place):
                places.append(place + 1)
        return places


def owners_of(spans):
    owners = []
    for number, span in enumerate(spans):
        owners.extend([number] * span.long)
    return owners


def box_numbers_of(codes):
    numbers = {}
    for place, code in enumerate(codes):
        if code == BOX:
            numbers[place] = len(numbers)
    return numbers
