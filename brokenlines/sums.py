"""What lines cost where all of a paragraph's are to be even."""

from brokenlines.counting import count_below
from brokenlines.signs import SOFT

TOO_WIDE = 4294967296
HYPHEN = 1000000


def cost_of(room, width, is_last):
    left = room - width
    if left < 0:
        return TOO_WIDE + left * left
    return 0 if is_last else left * left


def sum_of(measure, column, cuts):
    total = 0
    for cut in cuts:
        room = column.room_of_line(cut.line, cut.start == 0)
        total += cost_of(room, measure.width_of(cut.start, cut.stop), cut.stop == measure.last)
        total += hyphen_cost(measure, cut.stop)
    return total


def hyphen_cost(measure, index):
    return HYPHEN if measure.script.codes[measure.places[index] - 1] == SOFT else 0


# The rooms that lines may have, from the least on.
class Rooms:
    def __init__(self, sizes):
        self.sizes = sorted(set(sizes))
        self.most = self.sizes[-1]

    # The least that a line costs which is from least to most wide, in whichever room.
    def least_cost(self, least, most):
        if least > self.most:
            return TOO_WIDE + (least - self.most) * (least - self.most)
        index = count_below(self.sizes, least)
        left = self.sizes[index] - most
        if left <= 0:
            return 0
        if index == 0:
            return left * left
        over = least - self.sizes[index - 1]
        return min(left * left, TOO_WIDE + over * over)

    # The least for lines that are so wide or wider.
    def least_beyond(self, width):
        return TOO_WIDE + (width - self.most) * (width - self.most) if width > self.most else 0


# The rooms that lines from this one on may have. A touched line in which no stretch fits stays empty, so its room is
# none.
def rooms_from(column, line, width, is_first):
    found = []
    for part in column.slices[column.slice_at(line):]:
        room = column.room_in(part, is_first)
        if not part.is_touched or room >= width:
            found.append(room)
    return Rooms(found)
