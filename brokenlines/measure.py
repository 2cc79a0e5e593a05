"""How wide each line would be that a paragraph can be broken into."""

from brokenlines.signs import SOFT

# How far a line's walk goes by itself before it is kept as a chain that others may follow.
LONGEST_ALONE = 32


# Takes the characters of a line one by one and knows at each how wide all so far are.
class Pen:
    def __init__(self, script):
        self.script = script
        self.settled = 0
        self.before = None
        self.last = None
        self.face = None

    # What the last letter takes: the next one may still join it, so it isn't settled.
    def pending(self):
        if self.last is None:
            return 0
        if self.before is None:
            return self.face.room_of(self.last)
        if self.face.font.bears(self.before, self.last):
            return 0
        return self.face.pair_of(self.before, self.last) + self.face.room_of(self.last)

    def reached(self):
        return self.settled + self.pending()

    def settle(self):
        self.settled += self.pending()
        if self.before is None or not self.face.font.bears(self.before, self.last):
            self.before = self.last

    def take_letter(self, letter):
        two = (self.last, letter)
        if two in self.face.font.joins:
            self.last = self.face.font.joins[two]
            return
        if self.last is not None:
            self.settle()
        self.last = letter

    # Ahead of a place's character: what a stretch leaves behind doesn't count in the next.
    def come_to(self, place):
        if self.script.begins[place]:
            self.settled = self.reached()
            self.before = None
            self.last = None
        self.face = self.script.face_at(place)

    def take(self, place):
        if place in self.script.box_numbers:
            self.settled += self.script.boxes[self.script.box_numbers[place]].wide
        elif self.script.letters[place] is not None:
            self.take_letter(self.script.letters[place])

    # How wide a line is that ends here, with a hyphen if one is shown at this place.
    def reached_with(self, hyphen):
        if hyphen is None:
            return self.reached()
        other = Pen(self.script)
        other.settled = self.settled
        other.before = self.before
        other.last = self.last
        other.face = self.face
        other.take_letter(hyphen)
        return other.reached()


# The widths of the lines that begin at one place: the early ones as they are, the others as what their chain
# reaches at their end less the base.
class Begin:
    def __init__(self):
        self.early = []
        self.chain = 0
        self.base = 0


# A line's places are told by their index: 0 is the paragraph's beginning, then come those where a line may end.
# A chain is a walk through the characters, with what is reached at each end. Two walks that are in the same
# state at the same place go on alike, so most lines soon follow the chain from the paragraph's beginning.
class Measure:
    def __init__(self, script, paragraph):
        self.script = script
        self.places = [paragraph.start] + script.line_ends(paragraph)
        self.last = len(self.places) - 1
        self.letter_ends = [paragraph.start]
        self.hyphens = [None]
        for index in range(1, len(self.places)):
            self.find_end(index)
        self.states = [{} for place in range(paragraph.start, paragraph.stop + 1)]
        self.chains = []
        self.begun = {}
        self.follow(Pen(script), paragraph.start, 1)

    # Where the letters of a line end that ends there, a hyphen left out, and that hyphen.
    def find_end(self, index):
        end = self.script.end_of_letters(self.places[index - 1], self.places[index])
        if end > self.places[index - 1] and self.script.codes[end - 1] == SOFT:
            self.letter_ends.append(end - 1)
            self.hyphens.append(self.script.hyphen_at(end - 1))
        else:
            self.letter_ends.append(end)
            self.hyphens.append(None)

    # The chain, and what it has reached, that is at this place in the state in which the pen comes to it.
    def chain_met(self, pen, place):
        if place < self.places[-1]:
            pen.come_to(place)
        return self.states[place - self.places[0]].get((pen.before, pen.last))

    # What is reached at the ends from this index on whose letters end at this place.
    def ends_at(self, pen, place, index):
        found = []
        while index <= self.last and self.letter_ends[index] == place:
            found.append(pen.reached_with(self.hyphens[index]))
            index += 1
        return found

    # A new chain, from the pen's place on.
    def follow(self, pen, place, index):
        number = len(self.chains)
        reaches = [0] * index
        while index <= self.last:
            met = self.chain_met(pen, place)
            if met is not None:
                more = pen.reached() - met[1]
                reaches.extend([reach + more for reach in self.chains[met[0]][index:]])
                break
            self.states[place - self.places[0]][(pen.before, pen.last)] = (number, pen.reached())
            reaches.extend(self.ends_at(pen, place, index))
            index = len(reaches)
            if index <= self.last:
                pen.take(place)
            place += 1
        self.chains.append(reaches)
        return number

    def begin_at(self, start):
        if start not in self.begun:
            self.begun[start] = self.find_begin(start)
        return self.begun[start]

    def find_begin(self, start):
        begin = Begin()
        pen = Pen(self.script)
        place = self.places[start]
        index = start + 1
        while index <= self.last:
            met = self.chain_met(pen, place)
            if met is not None:
                begin.chain = met[0]
                begin.base = met[1] - pen.reached()
                break
            if place - self.places[start] == LONGEST_ALONE:
                begin.chain = self.follow(pen, place, index)
                break
            begin.early.extend(self.ends_at(pen, place, index))
            index = start + 1 + len(begin.early)
            if index <= self.last:
                pen.take(place)
            place += 1
        return begin

    def width_of(self, start, stop):
        begin = self.begin_at(start)
        if stop - start <= len(begin.early):
            return begin.early[stop - start - 1]
        return self.chains[begin.chain][stop] - begin.base
