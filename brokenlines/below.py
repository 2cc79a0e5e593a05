"""Lines below the bands: they are all alike, so only the best way to each place is kept."""

from brokenlines.keys import LATEST, NEVER, SHIFT, before_of, extra_of, key_of
from brokenlines.sums import Rooms


# Of ways that cost the same those with fewer lines are better, so keys are of what a way costs and its lines.
class Below:
    def __init__(self, outlook, line, slack):
        self.outlook = outlook
        self.line = line
        self.slack = slack
        self.bests = [NEVER] * (outlook.last + 1 + len(outlook.shared))
        self.landed = {}
        self.delayed = {}

    # A way that comes from above, with the line before.
    def land(self, start, extra, line_before, before):
        self.bests[start] = key_of(extra << SHIFT, before)
        self.landed[start] = line_before

    def pass_all(self):
        for start in range(self.outlook.last):
            self.settle(start)
            if self.bests[start] < NEVER and not self.is_beaten(start):
                self.pass_from(start)

    # What has come to cells from beginnings whose lines go as their chain does from here on, and what that is for
    # this place.
    def settle(self, place):
        for key, number in self.delayed.pop(place, []):
            self.bests[number] = min(self.bests[number], key)
        for number, over in self.outlook.sharers.get(place, []):
            key = self.bests[number] + (over << SHIFT)
            if key >> SHIFT >> SHIFT <= self.slack:
                self.bests[place] = min(self.bests[place], key)

    # Whether a way to the end is known that costs no more, with fewer lines, than any through this place.
    def is_beaten(self, start):
        end = extra_of(self.bests[self.outlook.last])
        here = extra_of(self.bests[start])
        return end >> SHIFT <= here >> SHIFT and end % (LATEST + 1) <= here % (LATEST + 1)

    def pass_from(self, start):
        done = extra_of(self.bests[start])
        own = key_of(done + 1, start)
        column = self.outlook.column
        rooms = Rooms([column.room_of_line(self.line, start == 0)])
        later = self.delayed.setdefault(self.outlook.stops[start], [])
        for cost, number in self.outlook.moves_from(start, rooms, self.slack - (done >> SHIFT)):
            key = own + (cost << SHIFT)
            if number > self.outlook.last:
                later.append((key, number))
            elif key < self.bests[number]:
                self.bests[number] = key

    # How many lines a way to this place has below the bands.
    def lines_to(self, place):
        return extra_of(self.bests[place]) % (LATEST + 1)

    # The line before, and where it begins.
    def line_before(self, line, start):
        before = before_of(self.bests[start])
        return (self.landed[start] if self.lines_to(start) == 0 else line - 1, before)
