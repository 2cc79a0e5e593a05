"""A line's letters, found and placed from 0 on, in the order in which they are seen."""

from brokenlines.signs import SOFT


# A letter with the places of all characters that have been joined in it. Its spot is the room at which one stands
# before it and behind it: its own, or that of what it counts as placed on.
class Glyph:
    def __init__(self, owner, letter, place):
        self.owner = owner
        self.letter = letter
        self.place = place
        self.places = [place]
        self.x = 0
        self.up = 0
        self.is_odd = False
        self.is_placed = False
        self.spot = 0
        self.room = 0

    def stand(self, x, room):
        self.x = x
        self.spot = x
        self.room = room

    def stand_on(self, other):
        self.is_placed = True
        self.spot = other.spot
        self.room = other.room

    def move(self, steps):
        self.x += steps
        self.spot += steps

    def widen(self, steps):
        if not self.is_placed:
            self.room += steps

    # Where one stands behind it.
    def edge_behind(self):
        return self.spot if self.is_odd else self.spot + self.room

    # Where one stands before the character with this number among its own.
    def edge_ahead(self, number):
        if self.is_placed:
            return self.edge_behind()
        share = self.room * number // len(self.places)
        return self.spot + self.room - share if self.is_odd else self.spot + share


class Shape:
    def __init__(self):
        self.glyphs = []
        self.width = 0


class Stretch:
    def __init__(self, level, start, stop):
        self.level = level
        self.start = start
        self.stop = stop


def stretches_of(script, start, stop):
    stretches = []
    begin = start
    for place in range(start, stop):
        if place + 1 == stop or script.begins[place + 1]:
            stretches.append(Stretch(script.levels[begin], begin, place + 1))
            begin = place + 1
    return stretches


# Turns about each row of stretches at this level or higher.
def turned_from(stretches, level):
    answer = []
    row = []
    for stretch in stretches:
        if stretch.level >= level:
            row.append(stretch)
        else:
            answer.extend(row[::-1])
            row = []
            answer.append(stretch)
    return answer + row[::-1]


# Turning goes down to 1: below the lowest odd level all is turned about an even number of times.
def as_seen(stretches):
    highest = max([stretch.level for stretch in stretches], default=0)
    answer = stretches
    for level in range(highest, 0, -1):
        answer = turned_from(answer, level)
    return answer


# The stretch's letters in the text's order; stop is where the line's letters end, so a 173 before it is shown.
def letters_of(script, stretch, stop):
    glyphs = []
    for place in range(stretch.start, stretch.stop):
        letter = script.letters[place]
        if place + 1 == stop and script.codes[place] == SOFT:
            letter = script.hyphen_at(place)
        if letter is not None:
            glyphs.append(Glyph(script.owners[place], letter, place))
    return glyphs


def joined(font, glyphs):
    answer = []
    before = None
    for glyph in glyphs:
        two = (before.letter, glyph.letter) if answer else None
        if two in font.joins:
            before.letter = font.joins[two]
            before.places.append(glyph.place)
        else:
            answer.append(glyph)
            before = glyph
    return answer


# Each letter that takes room, with the marks that are placed on it behind it.
def grouped(font, glyphs):
    groups = []
    for glyph in glyphs:
        if groups and font.bears(groups[-1][0].letter, glyph.letter):
            groups[-1].append(glyph)
        else:
            groups.append([glyph])
    return groups


def place_marks(face, group):
    head = group[0]
    for glyph in group[1:]:
        offset = face.offset_of(head.letter, glyph.letter)
        glyph.x = head.x + offset[0]
        glyph.up = offset[1]
        glyph.stand_on(head)


# A mark of room 0 that isn't placed, and isn't the first, counts as placed on what is before it where one stands.
def place_groups(face, groups, is_odd, shape):
    before = None
    for group in groups:
        head = group[0]
        room = face.room_of(head.letter)
        if before is not None:
            shape.width += face.pair_of(head.letter, before) if is_odd else face.pair_of(before, head.letter)
        head.stand(shape.width, room)
        if before is not None and room == 0 and head.letter in face.font.marks:
            head.stand_on(shape.glyphs[-1])
        place_marks(face, group)
        shape.width += room
        shape.glyphs.extend(group)
        before = head.letter


def place_box(script, place, shape):
    number = script.box_numbers[place]
    glyph = Glyph(script.owners[place], -1 - number, place)
    glyph.stand(shape.width, script.boxes[number].wide)
    shape.glyphs.append(glyph)
    shape.width += script.boxes[number].wide


def shape_stretch(script, stretch, end, shape):
    if stretch.start in script.box_numbers:
        place_box(script, stretch.start, shape)
        return
    face = script.face_at(stretch.start)
    groups = grouped(face.font, joined(face.font, letters_of(script, stretch, end)))
    is_odd = stretch.level % 2 == 1
    place_groups(face, groups[::-1] if is_odd else groups, is_odd, shape)


def shape_line(script, start, stop):
    shape = Shape()
    end = script.end_of_letters(start, stop)
    for stretch in as_seen(stretches_of(script, start, end)):
        shape_stretch(script, stretch, end, shape)
    for glyph in shape.glyphs:
        glyph.is_odd = script.levels[glyph.place] % 2 == 1
    return shape
