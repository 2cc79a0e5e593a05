"""What lines cost where all of a paragraph's are to be even, and the least that is still to come."""

from brokenlines.signs import SOFT

TOO_WIDE = 4294967296
HYPHEN = 1000000
BLOCK = 16


def cost_of(room, width, is_last):
    left = room - width
    if left < 0:
        return TOO_WIDE + left * left
    return 0 if is_last else left * left


# The least that a line costs which is from least to most wide, in whatever room from low to high.
def least_cost(low, high, least, most):
    if least > high:
        return TOO_WIDE + (least - high) * (least - high)
    if most < low:
        return (low - most) * (low - most)
    return 0


def sum_of(measure, column, cuts):
    total = 0
    for cut in cuts:
        room = column.room_of_line(cut.line, cut.start == 0)
        total += cost_of(room, measure.width_of(cut.start, cut.stop), cut.stop == measure.last)
        total += hyphen_cost(measure, cut.stop)
    return total


def hyphen_cost(measure, index):
    return HYPHEN if measure.script.codes[measure.places[index] - 1] == SOFT else 0


class Rooms:
    def __init__(self, low, high):
        self.low = low
        self.high = high


# The least and the greatest room that lines from this one on may have. A touched line in which no
# stretch fits stays empty, so its room is none.
def rooms_from(column, line, width, is_first):
    found = []
    for part in column.slices[column.slice_at(line):]:
        room = column.room_in(part, is_first)
        if not part.is_touched or room >= width:
            found.append(room)
    return Rooms(min(found), max(found))


# For each place the least that the lines behind it can cost, whichever rooms they get. Places are looked at in
# blocks, so that those far from any good line are passed over together.
class Outlook:
    def __init__(self, measure, column, line):
        self.measure = measure
        self.last = measure.last
        self.hyphens = [0] + [hyphen_cost(measure, index) for index in range(1, self.last + 1)]
        self.onward = list(self.hyphens)
        self.blocks = self.last // BLOCK + 1
        self.edges = {}
        self.leasts = [None] * self.blocks
        self.note(self.last)
        narrowest = min([measure.width_of(index, index + 1) for index in range(self.last)])
        rooms = rooms_from(column, line, narrowest, False)
        for index in range(self.last - 1, 0, -1):
            self.onward[index] += self.least_from(index, rooms)
            self.note(index)
        self.least = self.least_from(0, rooms_from(column, line, measure.width_of(0, 1), True))

    def note(self, index):
        known = self.leasts[index // BLOCK]
        if known is None or self.onward[index] < known:
            self.leasts[index // BLOCK] = self.onward[index]

    # The least and the most that a chain reaches in each block.
    def edges_of(self, chain):
        if chain not in self.edges:
            reaches = self.measure.chains[chain]
            parts = [reaches[at:at + BLOCK] for at in range(0, self.last + 1, BLOCK)]
            self.edges[chain] = [(min(part), max(part)) for part in parts]
        return self.edges[chain]

    # The blocks, from the one with this end on, in which a line may end that costs, with all that is behind it,
    # no more than the limit.
    def blocks_within(self, begin, stop, rooms, limit):
        edges = self.edges_of(begin.chain)
        found = []
        for block in range(stop // BLOCK, self.blocks):
            least = edges[block][0] - begin.base
            most = edges[block][1] - begin.base
            if least_cost(rooms.low, rooms.high, least, most) + self.leasts[block] <= limit:
                found.append(block)
        return found

    # All lines to the paragraph's end are last lines: those cost nothing if they fit.
    def least_from(self, start, rooms):
        begin = self.measure.begin_at(start)
        width = self.measure.width_of(start, self.last)
        best = cost_of(rooms.high, width, True) + self.onward[self.last]
        stop = start + 1
        for width in begin.early[:self.last - stop]:
            best = min(best, least_cost(rooms.low, rooms.high, width, width) + self.onward[stop])
            stop += 1
        for block in self.blocks_within(begin, stop, rooms, best - 1):
            best = self.best_in_block(block, stop, begin, rooms, best)
        return best

    def best_in_block(self, block, stop, begin, rooms, best):
        reaches = self.measure.chains[begin.chain]
        for index in range(max(stop, block * BLOCK), min((block + 1) * BLOCK, self.last)):
            width = reaches[index] - begin.base
            total = least_cost(rooms.low, rooms.high, width, width) + self.onward[index]
            if total < best:
                best = total
        return best
