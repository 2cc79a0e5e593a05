"""Broken with way 1: all of a paragraph's lines together as even as can be."""

from brokenlines.below import Below
from brokenlines.breaking import Cut, first_cuts
from brokenlines.keys import NEVER, SHIFT, before_of, extra_of, key_of
from brokenlines.outlook import Outlook
from brokenlines.runs import Run
from brokenlines.sums import Rooms, sum_of
from brokenlines.trails import Trail

COARSEST = 24
FEW_WAYS = 16
MORE_WAYS = 64


# Adds a way to those that come to a line at one place: of each place only what costs least is kept, of these the
# latest beginning of the line before, and all lines at which that line may lie.
def offer(comers, start, extra, line, before):
    known = comers.get(start)
    if known is None or extra < known[0] or extra == known[0] and before > known[1]:
        comers[start] = (extra, before, [line])
    elif extra == known[0] and before == known[1]:
        known[2].append(line)


# Tries the ways that cost no more than the slack above the least that there could be, line by line: all of them, or,
# if keep isn't 0, so many at each line. What ways and lines cost is told as what they add to that least, never below 0.
# What has left lines empty waits for the line at which it fits.
class Search:
    def __init__(self, outlook, slack, keep):
        self.measure = outlook.measure
        self.column = outlook.column
        self.outlook = outlook
        self.slack = slack
        self.top = key_of(slack, 0)
        self.keep = keep
        self.tables = {}
        self.waited = {}
        self.later = {}
        self.trail = Trail()
        self.below = None
        self.done = None

    def run_from(self, line):
        now = self.column.line_for(line, self.outlook.firsts[0], True)
        self.waited[now] = {0: (0, 0, [now - 1])}
        arrived = {}
        while arrived or self.waited:
            if not arrived:
                now = min(self.waited)
            comers = self.comers_at(now, arrived)
            if now >= self.column.free:
                self.pass_below(now, comers)
                return
            stop = self.column.other_from(now)
            arrived = self.pass_run(now, stop, comers)
            now = stop

    # Many lines have the same room, so what has been found is kept; if it was for a lower limit, it's found anew
    # for the highest.
    def find_moves(self, start, room, limit):
        table = self.tables.setdefault(room, {})
        most = self.slack if start in table else limit
        table[start] = (most, sorted(self.outlook.moves_from(start, Rooms([room]), most)))
        return table[start]

    # The beginnings from which ways go on, those first whose lines go as their chain does from an earlier end on.
    def chosen(self, here):
        starts = list(here)
        if 0 < self.keep < len(starts):
            starts = sorted(starts, key=lambda start: here[start])[:self.keep]
        stops = self.outlook.stops
        return sorted(starts, key=lambda start: stops[start]) if self.outlook.shared else starts

    # What has arrived at a line, and what has waited for it.
    def comers_at(self, line, arrived):
        self.later = {}
        comers = self.waited.pop(line, {})
        unfit = self.unfit_at(line)
        for start, key in arrived.items():
            if start in unfit:
                self.wait_from(line, start, key)
            else:
                offer(comers, start, extra_of(key), line - 1, before_of(key))
        return comers

    # The places from which the line stays empty.
    def unfit_at(self, line):
        part = self.column.slices[self.column.slice_at(line)]
        if not part.is_touched:
            return {}
        room = self.column.room_in(part, False)
        firsts = self.outlook.firsts
        return dict([(start, True) for start in range(1, self.measure.last) if firsts[start] > room])

    # Lines of one run are all left empty from the same place, so how far is kept.
    def wait_from(self, line, start, key):
        later = self.later.get(start)
        if later is None:
            later = self.column.line_for(line, self.outlook.firsts[start], False)
            self.later[start] = later
        offer(self.waited.setdefault(later, {}), start, extra_of(key), line - 1, before_of(key))

    # Where only a few ways are tried, what they cost is all that is asked for.
    def keep_trail(self, line, kept):
        if self.keep == 0:
            self.trail.keep_all(line, kept)

    # The line before, of all at which it may lie.
    def line_chosen(self, comer):
        if len(comer[2]) == 1 or self.keep > 0:
            return comer[2][0]
        return self.trail.best_of(comer[1], comer[2])

    def pass_run(self, line, stop, comers):
        here = {}
        for start, comer in comers.items():
            here[start] = key_of(comer[0], comer[1])
            before = self.line_chosen(comer)
            if before == line - 1:
                self.keep_trail(line, [(start, comer[1])])
            else:
                self.trail.keep_jump(line, start, comer[1], before)
        unfit = self.unfit_at(line)
        run = Run(self, line, here)
        changed = run.pass_all()
        changed.extend([start for start in here if start not in run.arrived])
        while run.arrived and run.line + 1 < stop:
            for start in [start for start in run.arrived if start in unfit]:
                self.wait_from(run.line + 1, start, run.arrived[start])
            changed = run.go_on(changed, unfit)
        if not self.column.has_room_from(stop, run.room):
            self.tables.pop(run.room)
        return run.arrived

    def pass_below(self, line, comers):
        self.below = Below(self.outlook, line, self.slack)
        for start, comer in comers.items():
            self.below.land(start, comer[0], self.line_chosen(comer), comer[1])
        self.below.pass_all()
        key = self.below.bests[self.measure.last]
        if key < NEVER:
            last_line = line + self.below.lines_to(self.measure.last) - 1
            self.finish(key >> SHIFT >> SHIFT, last_line, before_of(key))

    # Ways that end at a later line have more lines, so they must cost less than this.
    def finish(self, extra, line, start):
        if extra <= self.slack:
            self.done = (line, start)
            self.slack = extra - 1
            self.top = key_of(self.slack, 0)

    def line_before(self, line, start):
        if line >= self.column.free:
            return self.below.line_before(line, start)
        return self.trail.line_before(line, start)

    def cuts(self):
        cut = Cut(self.done[0], self.done[1], self.measure.last)
        found = [cut]
        while cut.start > 0:
            before = self.line_before(cut.line, cut.start)
            cut = Cut(before[0], before[1], cut.start)
            found.append(cut)
        return found[::-1]


def searched(outlook, line, slack, keep):
    search = Search(outlook, slack, keep)
    search.run_from(line)
    return search


# The slack of a way that is good, if not the best. The less slack there is, the fewer lines are to be tried, so it is
# raised step by step up to that of way 0.
def good_slack(outlook, line, most):
    good = most
    for shift in range(COARSEST, -1, -4):
        search = searched(outlook, line, most >> shift, FEW_WAYS)
        if search.done is not None:
            good = search.slack + 1
            break
    search = searched(outlook, line, good - 1, MORE_WAYS)
    return good if search.done is None else search.slack + 1


def even_cuts(measure, column, line):
    plain = first_cuts(measure, column, line)
    if measure.last == 1:
        return plain
    outlook = Outlook(measure, column, line)
    search = searched(outlook, line, 0, 0)
    if search.done is None:
        most = sum_of(measure, column, plain) - outlook.behind[0]
        search = searched(outlook, line, good_slack(outlook, line, most), 0)
    return search.cuts()
