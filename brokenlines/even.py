"""Broken with way 1: all of a paragraph's lines together as even as can be."""

from brokenlines.breaking import Cut, first_cuts
from brokenlines.sums import BLOCK, Outlook, Rooms, cost_of, sum_of

COARSEST = 24


# What comes to a line, by the place at which the line would begin: sum, line before, that line's beginning.
# What has waited left lines empty; what has arrived comes from the line straight before.
class Layer:
    def __init__(self):
        self.waited = {}
        self.arrived = {}


# Tries all ways whose sum is within the bound, line by line. Below the bands all lines are alike, so there
# only the best way to each place is kept.
class Search:
    def __init__(self, measure, column, outlook, bound):
        self.measure = measure
        self.column = column
        self.outlook = outlook
        self.bound = bound
        self.tables = {}
        self.layers = {}
        self.trail = {}
        self.jumps = {}
        self.below = {}
        self.done = None

    def layer_at(self, line):
        return self.layers.setdefault(line, Layer())

    def run_from(self, line):
        begin = self.column.line_for(line, self.measure.width_of(0, 1), True)
        self.layer_at(begin).waited[0] = (0, begin - 1, 0)
        while self.layers:
            now = min(self.layers)
            states = self.settled_at(now, self.layers.pop(now))
            if now >= self.column.free:
                self.pass_below(now, states)
            elif states:
                self.pass_line(now, states)

    # Lines from this place that may be part of a way: their cost with what is to come at the least, end, cost.
    def find_moves(self, start, room, limit):
        last = self.measure.last
        begin = self.measure.begin_at(start)
        stop = min(start + 1 + len(begin.early), last)
        ends = list(range(start + 1, stop))
        for block in self.outlook.blocks_within(begin, stop, Rooms(room, room), limit):
            ends.extend(list(range(max(stop, block * BLOCK), min((block + 1) * BLOCK, last))))
        ends.append(last)
        moves = []
        for end in ends:
            cost = cost_of(room, self.measure.width_of(start, end), end == last)
            if cost + self.outlook.onward[end] <= limit:
                moves.append((cost + self.outlook.onward[end], end, cost + self.outlook.hyphens[end]))
        return moves

    # Many lines have the same room, so what has been found is kept; if it was for a lower limit, it's found anew
    # for the highest.
    def moves_from(self, start, room, limit):
        table = self.tables.setdefault(room, {})
        known = table.get(start)
        if known is None:
            table[start] = (limit, sorted(self.find_moves(start, room, limit)))
        elif known[0] < limit:
            table[start] = (self.bound, sorted(self.find_moves(start, room, self.bound)))
        return table[start][1]

    # What begins at this line: what has arrived and doesn't fit waits for a later one. Of two with the same sum
    # the one that left lines empty goes ahead, for an empty line begins where the next one does.
    def settled_at(self, line, layer):
        part = self.column.slices[self.column.slice_at(line)]
        room = self.column.room_in(part, False)
        states = {}
        for start, entry in layer.arrived.items():
            if part.is_touched and self.measure.width_of(start, start + 1) > room:
                self.wait_from(line, start, entry)
            else:
                states[start] = entry
        for start, entry in layer.waited.items():
            if start not in states or entry[0] <= states[start][0]:
                states[start] = entry
        return states

    def wait_from(self, line, start, entry):
        later = self.column.line_for(line, self.measure.width_of(start, start + 1), False)
        waited = self.layer_at(later).waited
        if start not in waited or entry[0] < waited[start][0]:
            waited[start] = entry

    def pass_line(self, line, states):
        self.keep_trail(line, states)
        arrived = {}
        for start in sorted(states):
            total = states[start][0]
            if total + self.least_behind(start) > self.bound:
                continue
            room = self.column.room_of_line(line, start == 0)
            for move in self.moves_from(start, room, self.bound - total):
                if total + move[0] > self.bound:
                    break
                there = arrived.get(move[1])
                if there is None or total + move[2] <= there[0]:
                    arrived[move[1]] = (total + move[2], line, start)
        if self.measure.last in arrived:
            self.finish(arrived.pop(self.measure.last))
        if arrived:
            layer = self.layer_at(line + 1)
            layer.arrived = arrived

    # Kept as lists, since there may be millions of states.
    def keep_trail(self, line, states):
        low = min(states)
        starts = [0] * (max(states) - low + 1)
        for start, entry in states.items():
            starts[start - low] = entry[2]
            if entry[1] != line - 1:
                self.jumps[(line, start)] = entry[1]
        self.trail[line] = (low, starts)

    def pass_below(self, line, states):
        for start, entry in states.items():
            self.below[start] = (entry[0], line, entry[1], entry[2])
        for start in range(self.measure.last):
            if start not in self.below or self.is_beaten(start):
                continue
            total = self.below[start][0]
            now = self.below[start][1]
            room = self.column.room_of_line(now, start == 0)
            for move in self.find_moves(start, room, self.bound - total):
                there = self.below.get(move[1])
                if there is None or (total + move[2], now + 1) <= (there[0], there[1]):
                    self.below[move[1]] = (total + move[2], now + 1, now, start)
        if self.measure.last in self.below:
            end = self.below[self.measure.last]
            self.finish((end[0], end[2], end[3]))

    def least_behind(self, start):
        return self.outlook.onward[start] - self.outlook.hyphens[start]

    # Whether a way to the end is known that costs no more, with fewer lines, than any through this place.
    def is_beaten(self, start):
        if self.measure.last not in self.below:
            return False
        here = self.below[start]
        end = self.below[self.measure.last]
        return end[0] <= here[0] + self.least_behind(start) and end[1] <= here[1]

    # Ways that end at a later line have more lines, so they must cost less than this.
    def finish(self, entry):
        if entry[0] <= self.bound:
            self.done = entry
            self.bound = entry[0] - 1

    def line_before(self, line, start):
        if line >= self.column.free:
            return (self.below[start][2], self.below[start][3])
        row = self.trail[line]
        return (self.jumps.get((line, start), line - 1), row[1][start - row[0]])

    def cuts(self):
        cut = Cut(self.done[1], self.done[2], self.measure.last)
        found = [cut]
        while cut.start > 0:
            before = self.line_before(cut.line, cut.start)
            cut = Cut(before[0], before[1], cut.start)
            found.append(cut)
        return found[::-1]


# The bound is raised step by step up to what way 0 costs, for the nearer it is to the least sum, the fewer ways
# there are to try.
def even_cuts(measure, column, line):
    plain = first_cuts(measure, column, line)
    if measure.last == 1:
        return plain
    outlook = Outlook(measure, column, line)
    most = sum_of(measure, column, plain)
    for shift in range(COARSEST, -1, -2):
        search = Search(measure, column, outlook, outlook.least + ((most - outlook.least) >> shift))
        search.run_from(line)
        if search.done is not None:
            return search.cuts()
    return plain
