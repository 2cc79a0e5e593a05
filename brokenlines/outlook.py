"""The least that lines cost which are still to come, whichever rooms they get."""

from brokenlines.counting import count_below
from brokenlines.keys import SHIFT
from brokenlines.sums import cost_of, hyphen_cost, rooms_from

BLOCK = 16
NEAR = 16


# Ends not far from one another at which a chain reaches the same: lines from one place to any of them are as wide. Its
# number is that of its end, if it's the only one.
class Cell:
    def __init__(self, reach, end):
        self.reach = reach
        self.ends = [end]
        self.number = end
        self.least = None


# The ends of a chain from the first one that is asked for, in cells, and these in blocks, so that those far from any
# good line are passed over together.
class Course:
    def __init__(self, reaches, first, last):
        self.first = first
        self.last = last
        self.cells = []
        self.indexes = []
        newest = {}
        for end in range(first, last):
            index = newest.get(reaches[end])
            if index is not None and self.cells[index].ends[-1] >= end - NEAR:
                self.cells[index].ends.append(end)
            else:
                index = len(self.cells)
                newest[reaches[end]] = index
                self.cells.append(Cell(reaches[end], end))
            self.indexes.append(index)
        self.spans = self.find_spans()
        self.leasts = [None] * len(self.spans)
        self.openings = self.find_openings()

    # The least and the most that is reached in each block, the least from there on, and the block's last end.
    def find_spans(self):
        spans = []
        for at in range((len(self.cells) - 1) // BLOCK, -1, -1):
            part = self.cells[at * BLOCK:(at + 1) * BLOCK]
            low = min([cell.reach for cell in part])
            high = max([cell.reach for cell in part])
            beyond = min(low, spans[-1][2]) if spans else low
            spans.append((low, high, beyond, max([cell.ends[-1] for cell in part])))
        return spans[::-1]

    # For each end the first block that has it or one behind it.
    def find_openings(self):
        openings = []
        block = 0
        for end in range(self.first, self.last):
            while self.spans[block][3] < end:
                block += 1
            openings.append(block)
        return openings

    def note(self, end, onward):
        if end < self.first:
            return
        index = self.indexes[end - self.first]
        cell = self.cells[index]
        if cell.least is None or onward < cell.least:
            cell.least = onward
        known = self.leasts[index // BLOCK]
        if known is None or onward < known:
            self.leasts[index // BLOCK] = onward

    # The blocks with ends from this one on at which a line may end that costs, with all that is behind it, no more
    # than the limit; each behind the least that this may be.
    def blocks_within(self, base, end, rooms, limit):
        found = []
        if end >= self.last:
            return found
        for block in range(self.openings[end - self.first], len(self.spans)):
            span = self.spans[block]
            if rooms.least_beyond(span[2] - base) > limit:
                break
            if span[3] >= end:
                least = rooms.least_cost(span[0] - base, span[1] - base) + self.leasts[block]
                if least <= limit:
                    found.append((least, block))
        return found

    def cells_of(self, block, end):
        return [cell for cell in self.cells[block * BLOCK:(block + 1) * BLOCK] if cell.ends[-1] >= end]


# Behind each place the least that the lines from there on can cost; onward with the hyphen that is there. Stops are
# where the ends begin to which lines go as their chain does.
class Outlook:
    def __init__(self, measure, column, line):
        self.measure = measure
        self.column = column
        self.last = measure.last
        self.firsts = [measure.width_of(index, index + 1) for index in range(self.last)]
        self.stops = [index + 1 + len(measure.begin_at(index).early) for index in range(self.last)]
        self.courses = self.find_courses()
        self.onward = [0] + [hyphen_cost(measure, index) for index in range(1, self.last + 1)]
        self.behind = [0] * (self.last + 1)
        rooms = rooms_from(column, line, min(self.firsts), False)
        for index in range(self.last - 1, 0, -1):
            self.behind[index] = self.least_from(index, rooms)
            self.onward[index] += self.behind[index]
            for course in self.courses.values():
                course.note(index, self.onward[index])
        self.behind[0] = self.least_from(0, rooms_from(column, line, self.firsts[0], True))
        self.joint = []
        self.shared = []
        self.sharers = {}
        self.share_numbers()

    def find_courses(self):
        firsts = {}
        for index in range(self.last):
            chain = self.measure.begin_at(index).chain
            firsts[chain] = min(self.stops[index], firsts.get(chain, self.last))
        courses = {}
        for chain, first in firsts.items():
            courses[chain] = Course(self.measure.chains[chain], first, self.last)
        return courses

    # Cells of several ends have numbers beyond all ends'. What a way to an end costs more than to the cell's best one
    # is kept as it's added to keys.
    def share_numbers(self):
        for course in self.courses.values():
            for cell in course.cells:
                if len(cell.ends) > 1:
                    cell.number = self.last + 1 + len(self.shared)
                    self.joint.append(cell.ends)
                    self.shared.append([(end, self.onward[end] - cell.least << SHIFT) for end in cell.ends])
        for index, ends in enumerate(self.shared):
            for end, over in ends:
                self.sharers.setdefault(end, []).append((self.last + 1 + index, over))

    # All lines to the paragraph's end are last lines: those cost nothing if they fit.
    def least_from(self, start, rooms):
        begin = self.measure.begin_at(start)
        best = cost_of(rooms.most, self.measure.width_of(start, self.last), True) + self.onward[self.last]
        end = start + 1
        for width in begin.early[:self.last - end]:
            best = min(best, rooms.least_cost(width, width) + self.onward[end])
            end += 1
        course = self.courses[begin.chain]
        for least, block in sorted(course.blocks_within(begin.base, end, rooms, best - 1)):
            if least >= best:
                break
            for cell in course.cells_of(block, end):
                width = cell.reach - begin.base
                best = min(best, rooms.least_cost(width, width) + cell.least)
        return best

    # A line, as what is added to a key, and its end.
    def move_to(self, start, end, room):
        cost = cost_of(room, self.measure.width_of(start, end), end == self.last)
        return (cost + self.onward[end] - self.behind[start] << SHIFT, end)

    # Lines from this place that may be part of a way: what is added to a key, and the end's number or the cell's.
    def moves_from(self, start, rooms, limit):
        begin = self.measure.begin_at(start)
        room = rooms.most
        behind = self.behind[start]
        moves = [self.move_to(start, end, room) for end in range(start + 1, min(self.stops[start], self.last))]
        moves.append(self.move_to(start, self.last, room))
        course = self.courses[begin.chain]
        for least, block in course.blocks_within(begin.base, self.stops[start], rooms, limit + behind):
            for cell in course.cells_of(block, self.stops[start]):
                cost = cost_of(room, cell.reach - begin.base, False)
                moves.append((cost + cell.least - behind << SHIFT, cell.number))
        top = limit + 1 << SHIFT
        return [move for move in moves if move[0] < top]

    # Of the ends with a cell's number, how many lie before the stop.
    def index_from(self, number, stop):
        return count_below(self.joint[number - self.last - 1], stop)

    # The ends with this number, from the stop on, and what each costs more.
    def ends_of(self, number, stop):
        if number <= self.last:
            return [(number, 0)]
        return self.shared[number - self.last - 1][self.index_from(number, stop):]
