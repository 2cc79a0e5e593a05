"""The column: how high lines are, and what bands leave of them."""

from brokenlines.counting import count_below


# Lines one behind another from which the bands take the same.
class Slice:
    def __init__(self, first, left, right, is_touched):
        self.first = first
        self.left = left
        self.right = right
        self.is_touched = is_touched


class Column:
    def __init__(self, work):
        self.wide = work.wide
        self.indent = work.indent
        pairs = [(face.scaled(face.font.up), face.scaled(face.font.down)) for face in work.faces]
        pairs.extend([(box.up, box.down) for box in work.boxes])
        self.up = max([pair[0] for pair in pairs], default=0)
        self.down = max([pair[1] for pair in pairs], default=0)
        self.gap = max([face.scaled(face.font.gap) for face in work.faces], default=0)
        self.high = max(self.up + self.down + self.gap, 1)
        self.slices = slices_of(work.bands, self.high)
        self.edges = [part.first for part in self.slices]
        self.free = self.edges[-1]

    def top_of(self, line):
        return line * self.high

    def y_of(self, line):
        return self.top_of(line) + self.up

    # The index of the slice that has the line.
    def slice_at(self, line):
        return count_below(self.edges, line + 1) - 1

    def left_of(self, line):
        return self.slices[self.slice_at(line)].left

    def room_in(self, part, is_first):
        room = self.wide - part.left - part.right
        return max(room - self.indent if is_first else room, 0)

    def room_of_line(self, line, is_first):
        return self.room_in(self.slices[self.slice_at(line)], is_first)

    # The first line behind this one that is touched otherwise, or has other room. There is one, down to the bands' end.
    def other_from(self, line):
        index = self.slice_at(line)
        part = self.slices[index]
        room = self.room_in(part, False)
        while self.slices[index].is_touched == part.is_touched and self.room_in(self.slices[index], False) == room:
            index += 1
        return self.slices[index].first

    # Whether a line from this one on has so much room, if it isn't a paragraph's first.
    def has_room_from(self, line, room):
        return any([self.room_in(part, False) == room for part in self.slices[self.slice_at(line):]])

    # The first line from this one on that isn't left empty, if it begins with so wide a stretch.
    def line_for(self, line, width, is_first):
        index = self.slice_at(line)
        while self.slices[index].is_touched and width > self.room_in(self.slices[index], is_first):
            index += 1
        return max(line, self.slices[index].first)


# For each band the first line that it has a place in common with, and the line behind the last.
def touched_by(band, high):
    return (band.top // high, (band.bottom - 1) // high + 1)


# The last slice is the one below all bands.
def slices_of(bands, high):
    real = [band for band in bands if band.top < band.bottom]
    edges = [0]
    for band in real:
        edges.extend(touched_by(band, high))
    slices = []
    for edge in sorted(set(edges)):
        there = [band for band in real if band.top // high <= edge <= (band.bottom - 1) // high]
        left = max([band.left for band in there], default=0)
        right = max([band.right for band in there], default=0)
        slices.append(Slice(edge, left, right, len(there) > 0))
    return slices
