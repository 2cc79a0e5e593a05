"""Broken with way 0: line by line as much as fits."""


# A line of a paragraph, its beginning and end told by the indexes of the measure's places.
class Cut:
    def __init__(self, line, start, stop):
        self.line = line
        self.start = start
        self.stop = stop


def last_that_fits(measure, start, room):
    stop = start + 1
    if measure.width_of(start, stop) > room:
        return stop
    while stop < measure.last and measure.width_of(start, stop + 1) <= room:
        stop += 1
    return stop


def first_cuts(measure, column, line):
    cuts = []
    start = 0
    while start < measure.last:
        line = column.line_for(line, measure.width_of(start, start + 1), start == 0)
        stop = last_that_fits(measure, start, column.room_of_line(line, start == 0))
        cuts.append(Cut(line, start, stop))
        line += 1
        start = stop
    return cuts
