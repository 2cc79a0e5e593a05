"""Broken with way 1: all of a paragraph's lines together as even as can be."""

from brokenlines.breaking import Cut, first_cuts
from brokenlines.runs import Run
from brokenlines.sums import BLOCK, Outlook, Rooms, cost_of, sum_of
from brokenlines.trails import Trail

COARSEST = 24


# Adds a way to those that come to a line at one place: of each place only the least sum is kept, of these the latest
# beginning of the line before, and all lines at which that line may lie.
def offer(comers, start, total, line, before):
    known = comers.get(start)
    if known is None or total < known[0] or total == known[0] and before > known[1]:
        comers[start] = (total, before, [line])
    elif total == known[0] and before == known[1]:
        known[2].append(line)


# Tries all ways whose sum is within the bound, line by line. Below the bands all lines are alike, so there
# only the best way to each place is kept. What has left lines empty waits for the line at which it fits.
class Search:
    def __init__(self, measure, column, outlook, bound):
        self.measure = measure
        self.column = column
        self.outlook = outlook
        self.bound = bound
        self.tables = {}
        self.waited = {}
        self.trail = Trail()
        self.below = {}
        self.done = None

    def run_from(self, line):
        now = self.column.line_for(line, self.measure.width_of(0, 1), True)
        self.waited[now] = {0: (0, 0, [now - 1])}
        arrived = {}
        while arrived or self.waited:
            if not arrived:
                now = min(self.waited)
            comers = self.comers_at(now, arrived)
            if now >= self.column.free:
                self.pass_below(now, comers)
                return
            stop = self.column.other_from(now)
            arrived = self.pass_run(now, stop, comers)
            now = stop

    def cost_between(self, start, end, room):
        return cost_of(room, self.measure.width_of(start, end), end == self.measure.last)

    # Lines from this place that may be part of a way: their cost with what is to come at the least, end, cost.
    def find_moves(self, start, room, limit):
        last = self.measure.last
        begin = self.measure.begin_at(start)
        stop = min(start + 1 + len(begin.early), last)
        ends = list(range(start + 1, stop))
        for block in self.outlook.blocks_within(begin, stop, Rooms(room, room), limit):
            ends.extend(list(range(max(stop, block * BLOCK), min((block + 1) * BLOCK, last))))
        ends.append(last)
        moves = []
        for end in ends:
            cost = self.cost_between(start, end, room)
            if cost + self.outlook.onward[end] <= limit:
                moves.append((cost + self.outlook.onward[end], end, cost + self.outlook.hyphens[end]))
        return moves

    # Many lines have the same room, so what has been found is kept; if it was for a lower limit, it's found anew
    # for the highest.
    def moves_from(self, start, room, limit):
        table = self.tables.setdefault(room, {})
        known = table.get(start)
        if known is None:
            table[start] = (limit, sorted(self.find_moves(start, room, limit)))
        elif known[0] < limit:
            table[start] = (self.bound, sorted(self.find_moves(start, room, self.bound)))
        return table[start][1]

    # What has arrived at a line, and what has waited for it.
    def comers_at(self, line, arrived):
        comers = self.waited.pop(line, {})
        unfit = self.unfit_at(line)
        for start, entry in arrived.items():
            if start in unfit:
                self.wait_from(line, start, entry)
            else:
                offer(comers, start, entry[0], line - 1, entry[1])
        return comers

    # The places from which the line stays empty.
    def unfit_at(self, line):
        part = self.column.slices[self.column.slice_at(line)]
        if not part.is_touched:
            return {}
        room = self.column.room_in(part, False)
        unfit = {}
        for start in range(1, self.measure.last):
            if self.measure.width_of(start, start + 1) > room:
                unfit[start] = True
        return unfit

    def wait_from(self, line, start, entry):
        later = self.column.line_for(line, self.measure.width_of(start, start + 1), False)
        offer(self.waited.setdefault(later, {}), start, entry[0], line - 1, entry[1])

    # The line before, of all at which it may lie.
    def line_chosen(self, comer):
        return comer[2][0] if len(comer[2]) == 1 else self.trail.best_of(comer[1], comer[2])

    def pass_run(self, line, stop, comers):
        here = {}
        for start, comer in comers.items():
            here[start] = (comer[0], comer[1])
            before = self.line_chosen(comer)
            if before == line - 1:
                self.trail.keep(line, start, comer[1])
            else:
                self.trail.keep_jump(line, start, comer[1], before)
        unfit = self.unfit_at(line)
        run = Run(self, line, here)
        changed = run.pass_all()
        changed.extend([start for start in here if start not in run.arrived])
        while run.arrived and run.line + 1 < stop:
            for start in unfit:
                if start in run.arrived:
                    self.wait_from(run.line + 1, start, run.arrived[start])
            changed = run.go_on(changed, unfit)
        return run.arrived

    def pass_below(self, line, comers):
        for start, comer in comers.items():
            self.below[start] = (comer[0], line, self.line_chosen(comer), comer[1])
        for start in range(self.measure.last):
            if start not in self.below or self.is_beaten(start):
                continue
            total = self.below[start][0]
            now = self.below[start][1]
            room = self.column.room_of_line(now, start == 0)
            for move in self.find_moves(start, room, self.bound - total):
                there = self.below.get(move[1])
                if there is None or (total + move[2], now + 1) <= (there[0], there[1]):
                    self.below[move[1]] = (total + move[2], now + 1, now, start)
        if self.measure.last in self.below:
            end = self.below[self.measure.last]
            self.finish(end[0], end[2], end[3])

    def least_behind(self, start):
        return self.outlook.onward[start] - self.outlook.hyphens[start]

    # Whether a way to the end is known that costs no more, with fewer lines, than any through this place.
    def is_beaten(self, start):
        if self.measure.last not in self.below:
            return False
        here = self.below[start]
        end = self.below[self.measure.last]
        return end[0] <= here[0] + self.least_behind(start) and end[1] <= here[1]

    # Ways that end at a later line have more lines, so they must cost less than this.
    def finish(self, total, line, start):
        if total <= self.bound:
            self.done = (line, start)
            self.bound = total - 1

    def line_before(self, line, start):
        if line >= self.column.free:
            return (self.below[start][2], self.below[start][3])
        return self.trail.line_before(line, start)

    def cuts(self):
        cut = Cut(self.done[0], self.done[1], self.measure.last)
        found = [cut]
        while cut.start > 0:
            before = self.line_before(cut.line, cut.start)
            cut = Cut(before[0], before[1], cut.start)
            found.append(cut)
        return found[::-1]


# The bound is raised step by step up to what way 0 costs, for the nearer it is to the least sum, the fewer ways
# there are to try.
def even_cuts(measure, column, line):
    plain = first_cuts(measure, column, line)
    if measure.last == 1:
        return plain
    outlook = Outlook(measure, column, line)
    most = sum_of(measure, column, plain)
    for shift in range(COARSEST, -1, -2):
        search = Search(measure, column, outlook, outlook.least + ((most - outlook.least) >> shift))
        search.run_from(line)
        if search.done is not None:
            return search.cuts()
    return plain
