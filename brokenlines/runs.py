"""Lines with the same room, gone through one by one with all ways that come to them."""

FEW = 64
FEW_CHANGES = 8


# Most of what comes to one line comes to the next as well, so from line to line only what has changed is looked at.
# Here is, by the place at which the line begins, the least sum and the latest beginning of the line before; what has
# arrived is the same for the next line, what doesn't fit there with it.
class Run:
    def __init__(self, search, line, here):
        self.search = search
        self.outlook = search.outlook
        self.line = line
        self.room = search.column.room_of_line(line, False)
        self.here = here
        self.arrived = {}

    def room_from(self, start):
        return self.search.column.room_of_line(self.line, True) if start == 0 else self.room

    # All ways from here, the latest beginnings first. What is changed is given back.
    def pass_all(self):
        before = self.arrived
        self.arrived = {}
        groups = {}
        for start in sorted(self.here, reverse=True):
            edge = self.edge_for(start, groups)
            if edge - start > FEW:
                self.pass_from(start)
            else:
                for end in range(start + 1, edge + 1):
                    self.pass_to(start, end)
        self.finish()
        changed = [end for end in self.arrived if self.arrived[end] != before.get(end)]
        return changed + [end for end in before if end not in self.arrived]

    # The last end that is worth trying. Lines of one chain and base are as wide if they end alike, so behind a later
    # beginning that costs no more an earlier one is never better.
    def edge_for(self, start, groups):
        begin = self.search.measure.begin_at(start)
        group = groups.setdefault((begin.chain, begin.base), [])
        total = self.here[start][0]
        while group and group[-1][0] > total:
            group.pop()
        edge = start + len(begin.early)
        worth = max(edge, group[-1][1]) if group else self.outlook.last
        group.append((total, edge))
        return worth

    def pass_to(self, start, end):
        total = self.here[start][0]
        cost = self.search.cost_between(start, end, self.room_from(start))
        if total + cost + self.outlook.onward[end] <= self.search.bound:
            self.arrive(end, total + cost + self.outlook.hyphens[end], start)

    # Gives back where something has changed.
    def pass_from(self, start):
        total = self.here[start][0]
        limit = self.search.bound - total
        if self.search.least_behind(start) > limit:
            return []
        changed = []
        for move in self.search.moves_from(start, self.room_from(start), limit):
            if move[0] > limit:
                break
            if self.arrive(move[1], total + move[2], start):
                changed.append(move[1])
        return changed

    def arrive(self, end, total, start):
        there = self.arrived.get(end)
        if there is None or total < there[0] or total == there[0] and start > there[1]:
            self.arrived[end] = (total, start)
            return True
        return False

    def finish(self):
        if self.outlook.last in self.arrived:
            entry = self.arrived.pop(self.outlook.last)
            self.search.finish(entry[0], self.line, entry[1])

    # The next line: what has arrived begins there, if it fits.
    def go_on(self, changed, unfit):
        self.line += 1
        worse = {}
        better = []
        for start in changed:
            if start in unfit:
                continue
            old = self.here.pop(start, None)
            new = self.arrived.get(start)
            if new is not None:
                self.here[start] = new
                self.search.trail.keep(self.line, start, new[1])
            if new is None or old is not None and new[0] > old[0]:
                worse[start] = True
            elif old is None or new[0] < old[0]:
                better.append(start)
        return self.pass_changed(worse, better)

    def pass_changed(self, worse, better):
        lost = [end for end in self.arrived if self.arrived[end][1] in worse]
        if len(lost) + len(better) > FEW_CHANGES:
            return self.pass_all()
        for end in lost:
            self.arrived.pop(end)
            for start in [start for start in self.here if start < end]:
                self.pass_to(start, end)
        changed = list(lost)
        for start in better:
            changed.extend(self.pass_from(start))
        self.finish()
        return sorted(set(changed))
