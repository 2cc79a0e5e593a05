"""Which way: paragraphs, their sides, and the levels of their characters."""

OPENERS = ("LI", "RI", "FI")
HIGHEST = 60


class Paragraph:
    def __init__(self, start, stop, side):
        self.start = start
        self.stop = stop
        self.side = side


# Each LI, RI, FI with its PI, and each such PI with what it belongs to.
def partners_of(kinds, start, stop):
    partners = {}
    waiting = []
    for place in range(start, stop):
        if kinds[place] in OPENERS:
            waiting.append(place)
        elif kinds[place] == "PI" and waiting:
            opener = waiting.pop()
            partners[opener] = place
            partners[place] = opener
    return partners


# For each place the side of the part that begins there and goes on to the PI that ends it, or to the end.
def sides_from(kinds, start, stop, partners):
    sides = [0] * (stop - start + 1)
    for place in range(stop - 1, start - 1, -1):
        kind = kinds[place]
        if kind in ("R", "A"):
            sides[place - start] = 1
        elif kind in OPENERS:
            if place in partners:
                sides[place - start] = sides[partners[place] + 1 - start]
        elif kind != "L" and place not in partners:
            sides[place - start] = sides[place + 1 - start]
    return sides


def level_inside(kind, side, level):
    if kind == "RI" or (kind == "FI" and side == 1):
        return level + 1 + level % 2
    return level + 2 - level % 2


class Run:
    def __init__(self, level):
        self.level = level
        self.places = []


# Sorts a paragraph's characters into runs; B is in none, for it has the paragraph's level whatever is around it.
def runs_of(kinds, paragraph, partners, sides):
    runs = [Run(paragraph.side)]
    stack = [runs[0]]
    pushed = {}
    for place in range(paragraph.start, paragraph.stop):
        kind = kinds[place]
        if kind == "B":
            continue
        if kind == "PI" and pushed.get(partners.get(place), False):
            stack.pop()
        stack[-1].places.append(place)
        if kind in OPENERS:
            level = level_inside(kind, sides[place + 1 - paragraph.start], stack[-1].level)
            if level <= HIGHEST:
                pushed[place] = True
                stack.append(Run(level))
                runs.append(stack[-1])
    return runs


def without_marks(found, own):
    before = own
    answer = []
    for kind in found:
        if kind != "M":
            before = kind
        elif before in OPENERS or before == "PI":
            before = "O"
        answer.append(before)
    return answer


def with_digits(found, own):
    strong = own
    answer = []
    for kind in found:
        if kind in ("L", "R", "A"):
            strong = kind
        if kind == "N" and strong == "A":
            answer.append("AN")
        elif kind == "N" and strong == "L":
            answer.append("L")
        else:
            answer.append("R" if kind == "A" else kind)
    return answer


def with_neutrals(found, own):
    answer = []
    index = 0
    before = own
    while index < len(found):
        behind = index
        while behind < len(found) and found[behind] not in ("L", "R", "N", "AN"):
            behind += 1
        after = own
        if behind < len(found):
            after = "L" if found[behind] == "L" else "R"
        answer.extend([before if before == after else own] * (behind - index))
        if behind < len(found):
            answer.append(found[behind])
        before = after
        index = behind + 1
    return answer


def raised(level, kind):
    if level % 2 == 1:
        return level if kind == "R" else level + 1
    if kind == "L":
        return level
    return level + 1 if kind == "R" else level + 2


def settle_run(kinds, run, levels):
    own = "R" if run.level % 2 == 1 else "L"
    found = without_marks([kinds[place] for place in run.places], own)
    found = with_neutrals(with_digits(found, own), own)
    for place, kind in zip(run.places, found):
        levels[place] = raised(run.level, kind)


# The paragraphs in order; the level of each character is written into levels.
def read_paragraphs(kinds, told, levels):
    paragraphs = []
    start = 0
    while start < len(kinds):
        stop = start
        while stop < len(kinds) and kinds[stop] != "B":
            stop += 1
        stop = min(stop + 1, len(kinds))
        partners = partners_of(kinds, start, stop)
        sides = sides_from(kinds, start, stop, partners)
        paragraph = Paragraph(start, stop, sides[0] if told == 2 else told)
        levels[stop - 1] = paragraph.side
        for run in runs_of(kinds, paragraph, partners, sides):
            settle_run(kinds, run, levels)
        paragraphs.append(paragraph)
        start = stop
    return paragraphs
