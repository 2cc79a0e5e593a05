"""The package against the document's words written down plainly, on pieces of work that are made up."""

import random
import unittest

from brokenlines.laying import at, caret, heights, letters, lines, widths
from plain import Plain
from rough import made_rough

MIXED = [97, 98, 99, 100, 32, 45, 40, 41, 48, 49, 173, 1488, 1489, 1490, 1600, 1601, 1632, 769, 1425, 19968, 19969,
         8203, 160, 46, 65532, 8294, 8295, 8296, 8297, 10]
POOLS = ([97, 98, 32, 32, 173, 45, 769], [1488, 1489, 32, 97, 98, 48, 173, 769, 40], MIXED,
         [97, 98, 19968, 19969, 19970, 32])


def two_names(chance, names, most):
    return sorted({(chance.choice(names), chance.choice(names)) for _ in range(chance.randint(0, most))})


def made_font(chance):
    rows = ["font %d %d %d %d" % (chance.choice([1, 3, 10, 16, 1000]), chance.randint(0, 12), chance.randint(0, 5),
                                  chance.randint(0, 3))]
    names = ["l%d" % number for number in range(chance.randint(1, 9))]
    rows += ["letter %s %d" % (name, chance.choice([0, 0, 1, 5, 7, 10, 10, 20])) for name in names]
    rows += ["char %d %s" % (code, chance.choice(names)) for code in MIXED if chance.random() < 0.7]
    if chance.random() < 0.6:
        rows += ["pair %s %s %d" % (a, b, chance.randint(-8, 8)) for a, b in two_names(chance, names, 8)]
    if chance.random() < 0.5:
        rows += ["join %s %s %s" % (a, b, chance.choice(names)) for a, b in two_names(chance, names, 5)]
    if chance.random() < 0.6:
        for name in names:
            for kind in (0, 1):
                if chance.random() < 0.5:
                    rows.append("base %s %d %d %d" % (name, kind, chance.randint(-5, 5), chance.randint(-5, 5)))
            if chance.random() < 0.4:
                rows.append("mark %s %d %d %d" % (name, chance.randint(0, 1), chance.randint(-5, 5),
                                                  chance.randint(-5, 5)))
    return list("".join(row + "\n" for row in rows).encode())


def made_spans(chance, length, fonts):
    spans = []
    while length > 0 or chance.random() < 0.2:
        part = min(length, chance.choice([0, 1, 2, 5, length, length]))
        spans += [part, chance.randrange(fonts), chance.choice([1, 5, 10, 10, 16, 30])]
        length -= part
    return spans


def made_piece(seed, longest):
    chance = random.Random(seed)
    pool = list(chance.choice(POOLS)) + [10] * (chance.random() < 0.2) + [65532] * (chance.random() < 0.2)
    text = [chance.choice(pool) for _ in range(chance.randint(0, longest))]
    fonts = [made_font(chance) for _ in range(chance.randint(1, 3))]
    boxes = []
    for _ in range(text.count(65532)):
        boxes += [chance.randint(0, 40), chance.randint(0, 10), chance.randint(0, 4)]
    bands = []
    for _ in range(chance.choice([0, 0, 1, 2, 5])):
        top = chance.randint(0, 80)
        bands += [top, max(0, top + chance.randint(-3, 40)), chance.choice([0, 0, 5, 20, 60]),
                  chance.choice([0, 0, 5, 20])]
    return [chance.choice([0, 1, 2, 2]), chance.choice([0, 10, 30, 50, 50, 80, 120, 400, 70000, 200000]),
            chance.choice([0, 0, 7, 20]), chance.randint(0, 3), chance.randint(0, 1),
            made_spans(chance, len(text), len(fonts)), boxes, bands, text, fonts]


def made_ties(seed, longest):
    """Many ways of the same sum: letters of few widths, many of them 0, and lines without room."""
    chance = random.Random(seed)
    rows = ["font 1 1 0 0", "letter n 0", "letter w %d" % chance.choice([1, 2, 5]),
            "letter v %d" % chance.choice([1, 2, 3]), "char 119 w", "char 118 v"]
    rows += ["char 32 v"] * (chance.random() < 0.3) + ["pair w v -1"] * (chance.random() < 0.3)
    pool = chance.choice([(97,), (97, 97, 97, 119), (97, 118, 119), (97, 97, 118, 118, 119), (118, 119)])
    text = []
    for _ in range(chance.randint(1, longest)):
        text += [chance.choice(pool) for _ in range(chance.choice([1, 1, 1, 2]))] + [32]
    text += [119] * (chance.random() < 0.7)
    if chance.random() < 0.2:
        text[chance.randrange(len(text))] = 10
    wide = chance.choice([0, 1, 2, 5, 5, 5, 6, 10])
    bands = []
    top = 0
    for _ in range(chance.randint(1, 6)):
        top += chance.choice([0, 0, 1, 2])
        high = chance.randint(1, 4)
        bands += [top, top + high, chance.choice([0, 1, wide, wide]), chance.choice([0, 0, 1])]
        top += high
    return [chance.choice([0, 1]), wide, chance.choice([0, 0, 1]), 0, 1, [len(text), 0, 1], [], bands, text,
            rows_of(*rows)]


def rows_of(*rows):
    return [list("".join(row + "\n" for row in rows).encode())]


def made_hyphens(seed, longest):
    """Lines that cost about as much as a hyphen does, so that one begins now before it, now behind."""
    chance = random.Random(seed)
    rows = ["font 1 1 0 0", "letter n 0", "letter w %d" % chance.choice([500, 900, 1000]),
            "letter v %d" % chance.choice([300, 600, 1200]), "char 119 w", "char 118 v"]
    rows += ["pair w v -100"] * (chance.random() < 0.3)
    text = []
    for _ in range(chance.randint(2, longest)):
        text += [chance.choice([97, 97, 119, 118]), chance.choice([32, 173, 173, 8203])]
    wide = chance.choice([0, 500, 1000, 1500, 2000, 2500])
    bands = []
    top = chance.choice([0, 0, 1, 2])
    for _ in range(chance.randint(1, 5)):
        high = chance.randint(1, 4)
        bands += [top, top + high, chance.choice([0, wide, wide // 2, 500, 1000]), 0]
        top += high + chance.randint(0, 2)
    return [0, wide, chance.choice([0, 0, 500]), 0, 1, [len(text), 0, 1], [], bands, text, rows_of(*rows)]


def made_gaps(seed, longest):
    """Letters that fit nowhere wait for the lines between bands; two of them in one line would cost more."""
    chance = random.Random(seed)
    text = []
    for _ in range(chance.randint(2, longest)):
        text += [chance.choice([97, 97, 97, 97, 119]), 32]
    bands = []
    top = chance.choice([0, 0, 1, 2])
    for _ in range(chance.randint(1, 4)):
        high = chance.randint(1, 6)
        bands += [top, top + high, 0, 0]
        top += high + chance.randint(1, 4)
    rows = rows_of("font 1 0 0 0", "letter n 0", "letter w 32767", "char 119 w")
    return [0, 0, 0, 0, 1, [len(text), 0, 4], [], bands, text, rows]


def made_joins(seed):
    """Lines that begin at one place are not as wide as if they were cut off others that begin before it."""
    chance = random.Random(seed)
    number = chance.randint(2, 4)
    names = ["l%d" % index for index in range(number)]
    rows = ["font 1 1 0 0"] + ["letter %s %d" % (name, chance.choice([0, 0, 1, 1, 2, 3, 5])) for name in names]
    rows += ["char %d %s" % (19968 + index, names[index % number]) for index in range(4)]
    rows += ["pair %s %s %d" % (a, b, chance.randint(-3, 3)) for a, b in two_names(chance, names, 3)]
    rows += ["join %s %s %s" % (a, b, chance.choice(names)) for a, b in two_names(chance, names, 5)]
    rows += ["base l0 0 1 1", "mark l1 0 1 1"] * (chance.random() < 0.3)
    text = [19968 + chance.randrange(4) for _ in range(chance.randint(4, 14))]
    return [0, chance.randint(0, 8), 0, 0, 1, [len(text), 0, 1], [], [], text, rows_of(*rows)]


class PlainTest(unittest.TestCase):
    def compare(self, seeds, longest):
        for seed in seeds:
            given = made_piece(seed, longest)
            wanted = Plain(*given)
            self.assertEqual(lines(*given), wanted.lines(), seed)
            self.assertEqual(letters(*given), wanted.letters(), seed)
            few = all(len(wanted.ends(start, stop)) <= 9 for start, stop, _ in wanted.paras)
            if given[4] == 1 and few:
                self.assertEqual(lines(*given), wanted.lines(whole=True), seed)

    def test_short_texts(self):
        self.compare(range(1200), 24)

    def test_longer_texts(self):
        self.compare(range(5000, 5040), 70)

    def test_where_one_stands(self):
        for seed in range(20000, 20250):
            given = made_piece(seed, 12)
            wanted = Plain(*given)
            for place in range(len(given[8]) + 2):
                self.assertEqual(caret(*given[:5], place, *given[5:]), wanted.caret(place), (seed, place))

    def test_what_stands_nearest(self):
        for seed in range(30000, 30500):
            given = made_piece(seed, 14)
            wanted = Plain(*given)
            chance = random.Random(seed)
            for _ in range(5):
                x, y = chance.randint(-30, given[1] % 500 + 40), chance.randint(-20, 150)
                self.assertEqual(at(*given[:5], x, y, *given[5:]), wanted.at(x, y), (seed, x, y))

    def test_how_wide(self):
        for seed in range(40000, 41200):
            given = made_piece(seed, 24)
            self.assertEqual(widths(*given), Plain(*given).widths(), seed)
        for seed in range(42000, 42100):
            given = made_piece(seed, 120)
            self.assertEqual(widths(*given), Plain(*given).widths(), seed)

    def test_how_high(self):
        for seed in range(50000, 50800):
            given = made_piece(seed, 24)
            answer = heights(*given)
            self.assertEqual(answer, Plain(*given).heights(), seed)
            count = lines(*given)[0]
            if count != -6:
                self.assertEqual(answer[5], count * answer[1], seed)

    def test_ways_of_one_sum(self):
        for seed in range(1500):
            given = made_ties(seed, 8)
            self.assertEqual(lines(*given), Plain(*given).lines(whole=True), seed)

    def test_longer_ways_of_one_sum(self):
        for seed in range(7000, 7150):
            given = made_ties(seed, 40)
            self.assertEqual(lines(*given), Plain(*given).lines(), seed)

    def test_lines_that_end_with_hyphens(self):
        for seed in range(1200, 1600):
            given = made_hyphens(seed, 9)
            self.assertEqual(lines(*given), Plain(*given).lines(whole=True), seed)
        for seed in range(10000, 10080):
            given = made_hyphens(seed, 30)
            self.assertEqual(lines(*given), Plain(*given).lines(), seed)

    def test_lines_between_bands(self):
        # With 20248 and the last four a line begins at one place both behind empty lines and straight behind the line before.
        for seed in list(range(20000, 20300)) + [20441, 21160, 21237, 21264]:
            given = made_gaps(seed, 20)
            self.assertEqual(lines(*given), Plain(*given).lines(), seed)

    def test_rough_texts(self):
        # With the last three a way is found that is better than the first good one, and it's the best.
        for seeds, longest in ((range(0, 120), 40), (range(1000, 1030), 60), ((312, 843, 1691), 80)):
            for seed in seeds:
                given = made_rough(seed, longest)
                answer = lines(*given)
                if answer != [-6]:
                    self.assertEqual(answer, Plain(*given).lines(), seed)

    def test_joins_across_beginnings(self):
        for seed in list(range(60000, 60400)) + [86799, 97400]:
            given = made_joins(seed)
            self.assertEqual(lines(*given), Plain(*given).lines(), seed)

    def test_joins_that_never_agree(self):
        rows = "font 10 8 2 1\nletter a 10\nletter b 17\nletter c 21\nletter d 13\n"
        rows += "char 97 d\njoin a a b\njoin b a c\npair b d 2\n"
        text = [19968] * 100 + [97] + [19968] * 20
        for wide in (0, 25, 60, 500):
            for bands in ([], [0, 40, 7, 5, 60, 90, 0, 30]):
                given = [0, wide, 4, 3, 1, [121, 0, 10], [], bands, text, [list(rows.encode())]]
                self.assertEqual(lines(*given), Plain(*given).lines())
                given[4] = 0
                self.assertEqual(letters(*given), Plain(*given).letters())


if __name__ == "__main__":
    unittest.main()
