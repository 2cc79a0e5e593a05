"""Lines with the same room, gone through one by one with all ways that come to them."""

from brokenlines.keys import LATEST, NEVER, SHIFT, before_of, extra_of

FEW_CHANGES = 8
FEW_LOST = 2


# Most of what comes to one line comes to the next as well, so from line to line only what has changed is looked at.
# Here are the keys by the place at which the line begins; what has arrived is the same for the next line, what
# doesn't fit there with it.
class Run:
    def __init__(self, search, line, here):
        self.search = search
        self.outlook = search.outlook
        self.line = line
        self.room = search.column.room_of_line(line, False)
        self.known = search.tables.setdefault(self.room, {})
        self.here = here
        self.arrived = {}
        self.slots = [NEVER] * (self.outlook.last + 1 + len(self.outlook.shared))
        self.filled = []
        self.handed = {}

    def room_from(self, start):
        return self.search.column.room_of_line(self.line, True) if start == 0 else self.room

    # All ways from here. What is changed is given back.
    def pass_all(self):
        for start in self.search.chosen(self.here):
            self.pass_from(start)
        before = self.arrived
        self.arrived = self.emptied()
        self.finish()
        changed = [end for end, key in self.arrived.items() if key != before.get(end)]
        return changed + [end for end in before if end not in self.arrived]

    # What is in the slots of ends, with what has come to cells. The slots are as they were at first then.
    def emptied(self):
        last = self.outlook.last
        for number in [number for number in self.filled if number > last]:
            self.hand_on(number, last)
        found = dict([(number, self.slots[number]) for number in self.filled if number <= last])
        for number in self.filled:
            self.slots[number] = NEVER
        self.filled = []
        return found

    # What has come to a cell is for those of its ends that lie before the stop, and haven't got it yet.
    def hand_on(self, number, stop):
        slots = self.slots
        top = self.search.top
        ends = self.outlook.shared[number - self.outlook.last - 1]
        index = self.handed[number]
        for end, over in ends[index:]:
            if end >= stop:
                break
            index += 1
            key = slots[number] + over
            if key <= top and key < slots[end]:
                if slots[end] == NEVER:
                    self.filled.append(end)
                slots[end] = key
        self.handed[number] = index

    def moves_from(self, start):
        limit = self.search.slack - (self.here[start] >> SHIFT)
        known = self.known.get(start)
        if known is None or known[0] < limit:
            known = self.search.find_moves(start, self.room_from(start), limit)
        return known[1]

    def pass_from(self, start):
        own = (self.here[start] | LATEST) - start
        top = self.search.top
        slots = self.slots
        for cost, number in self.moves_from(start):
            new = own + cost
            if new > top:
                break
            old = slots[number]
            if new < old:
                if number > self.outlook.last:
                    self.turn_to(number, self.outlook.stops[start], old == NEVER)
                slots[number] = new
                if old == NEVER:
                    self.filled.append(number)

    # Ahead of something better for a cell's ends from the stop on.
    def turn_to(self, number, stop, is_first):
        if is_first:
            self.handed[number] = self.outlook.index_from(number, stop)
        else:
            self.hand_on(number, stop)

    # The same from one beginning alone. Gives back where something has changed.
    def pass_again(self, start):
        own = (self.here[start] | LATEST) - start
        changed = []
        for cost, number in self.moves_from(start):
            for end, over in self.outlook.ends_of(number, self.outlook.stops[start]):
                new = own + cost + over
                if new <= self.search.top and new < self.arrived.get(end, NEVER):
                    self.arrived[end] = new
                    changed.append(end)
        return changed

    def pass_to(self, start, end):
        new = (self.here[start] | LATEST) - start + self.outlook.move_to(start, end, self.room_from(start))[0]
        if new <= self.search.top:
            self.arrived[end] = min(self.arrived.get(end, NEVER), new)

    def finish(self):
        key = self.arrived.pop(self.outlook.last, NEVER)
        if key < NEVER:
            self.search.finish(extra_of(key), self.line, before_of(key))

    # The next line: what has arrived begins there, if it fits.
    def go_on(self, changed, unfit):
        self.line += 1
        here = self.here
        worse = {}
        better = []
        kept = []
        for start in changed:
            if start in unfit:
                continue
            new = self.arrived.get(start, NEVER)
            old = here.pop(start, NEVER) >> SHIFT
            if new < NEVER:
                here[start] = new
                kept.append((start, LATEST - new % (LATEST + 1)))
            if new >> SHIFT > old:
                worse[start] = True
            elif new >> SHIFT < old:
                better.append(start)
        self.search.keep_trail(self.line, kept)
        return self.pass_changed(worse, better)

    def pass_changed(self, worse, better):
        if len(better) > FEW_CHANGES or self.search.keep > 0:
            return self.pass_all()
        lost = [end for end, key in self.arrived.items() if LATEST - key % (LATEST + 1) in worse]
        if len(lost) > FEW_LOST:
            return self.pass_all()
        for end in lost:
            self.arrived.pop(end)
            for start in [start for start in self.here if start < end]:
                self.pass_to(start, end)
        changed = list(lost)
        for start in better:
            changed.extend(self.pass_again(start))
        self.finish()
        return sorted(set(changed))
