"""A line's letters, found and placed from 0 on, in the order in which they are seen."""

from brokenlines.signs import SOFT


class Glyph:
    def __init__(self, owner, letter, place):
        self.owner = owner
        self.letter = letter
        self.place = place
        self.x = 0
        self.up = 0


class Shape:
    def __init__(self):
        self.glyphs = []
        self.width = 0


class Stretch:
    def __init__(self, level, start, stop):
        self.level = level
        self.start = start
        self.stop = stop


def stretches_of(script, start, stop):
    stretches = []
    begin = start
    for place in range(start, stop):
        if place + 1 == stop or script.begins[place + 1]:
            stretches.append(Stretch(script.levels[begin], begin, place + 1))
            begin = place + 1
    return stretches


# Turns about each row of stretches at this level or higher.
def turned_from(stretches, level):
    answer = []
    row = []
    for stretch in stretches:
        if stretch.level >= level:
            row.append(stretch)
        else:
            answer.extend(row[::-1])
            row = []
            answer.append(stretch)
    return answer + row[::-1]


# Turning goes down to 1: below the lowest odd level all is turned about an even number of times.
def as_seen(stretches):
    highest = max([stretch.level for stretch in stretches], default=0)
    answer = stretches
    for level in range(highest, 0, -1):
        answer = turned_from(answer, level)
    return answer


# The stretch's letters in the text's order; stop is where the line's letters end, so a 173 before it is shown.
def letters_of(script, stretch, stop):
    glyphs = []
    for place in range(stretch.start, stretch.stop):
        letter = script.letters[place]
        if place + 1 == stop and script.codes[place] == SOFT:
            letter = script.hyphen_at(place)
        if letter is not None:
            glyphs.append(Glyph(script.owners[place], letter, place))
    return glyphs


def joined(font, glyphs):
    answer = []
    before = None
    for glyph in glyphs:
        two = (before.letter, glyph.letter) if answer else None
        if two in font.joins:
            before.letter = font.joins[two]
        else:
            answer.append(glyph)
            before = glyph
    return answer


# Each letter that takes room, with the marks that are placed on it behind it.
def grouped(font, glyphs):
    groups = []
    for glyph in glyphs:
        if groups and font.bears(groups[-1][0].letter, glyph.letter):
            groups[-1].append(glyph)
        else:
            groups.append([glyph])
    return groups


def place_marks(face, group):
    for glyph in group[1:]:
        offset = face.offset_of(group[0].letter, glyph.letter)
        glyph.x = group[0].x + offset[0]
        glyph.up = offset[1]


def place_groups(face, groups, is_odd, shape):
    before = None
    for group in groups:
        head = group[0]
        if before is not None:
            shape.width += face.pair_of(head.letter, before) if is_odd else face.pair_of(before, head.letter)
        head.x = shape.width
        place_marks(face, group)
        shape.width += face.room_of(head.letter)
        shape.glyphs.extend(group)
        before = head.letter


def place_box(script, place, shape):
    number = script.box_numbers[place]
    glyph = Glyph(script.owners[place], -1 - number, place)
    glyph.x = shape.width
    shape.glyphs.append(glyph)
    shape.width += script.boxes[number].wide


def shape_line(script, start, stop):
    shape = Shape()
    end = script.end_of_letters(start, stop)
    for stretch in as_seen(stretches_of(script, start, end)):
        if stretch.start in script.box_numbers:
            place_box(script, stretch.start, shape)
            continue
        face = script.face_at(stretch.start)
        groups = grouped(face.font, joined(face.font, letters_of(script, stretch, end)))
        is_odd = stretch.level % 2 == 1
        place_groups(face, groups[::-1] if is_odd else groups, is_odd, shape)
    return shape
