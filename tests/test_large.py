"""The largest pieces of work that may be handed in end in ordinary time."""

import random
import time
import unittest

from brokenlines.laying import at, caret, heights, letters, lines, widths
from rough import made_rough

SECONDS = 20
CALLS = (lines, letters, caret, at, widths, heights)


def font(*rows):
    return list("".join(row + "\n" for row in rows).encode())


FONT = font("font 1000 800 200 100", "letter no 600", "letter a 500", "letter b 620", "letter sp 250", "letter z 0",
            "char 97 a", "char 98 b", "char 32 sp", "char 19969 z")
# Letters that join three by three: lines that begin at different places never come to agree.
THREES = font("font 1000 800 200 100", "letter a 500", "letter b 900", "letter c 1200", "join a a b", "join b a c")
FLAT = font("font 1000 0 0 0", "letter a 1")


def made_bands(seed, height, most):
    chance = random.Random(seed)
    bands = []
    for _ in range(64):
        top = chance.randint(0, height)
        bands += [top, min(2 ** 24, top + chance.randint(1, height // 20)), chance.randint(0, most),
                  chance.randint(0, most)]
    return bands


def words():
    chance = random.Random(7)
    text = []
    while len(text) < 4096:
        text += [chance.choice((97, 98)) for _ in range(chance.randint(1, 9))] + [32]
    return text[:4096]


class LargeTest(unittest.TestCase):
    turns = 0

    def timed(self, call, *given):
        start = time.monotonic()
        answer = call(*given)
        self.assertLess(time.monotonic() - start, SECONDS, call)
        return answer

    def shape(self, call, given):
        """Whether the answer has the form that it should have."""
        length = len(given[8])
        if call == caret:
            self.assertEqual(len(self.timed(call, *given[:5], length // 2, *given[5:])), 4)
            return
        if call == at:
            answer = self.timed(call, *given[:5], 700, 30000, *given[5:])
            self.assertTrue(len(answer) == 1 and 0 <= answer[0] <= length)
            return
        answer = self.timed(call, *given)
        if call in (widths, heights):
            self.assertTrue(len(answer) == (3 if call == widths else 6) and answer[0] == 0 and min(answer) == 0)
            return
        self.assertTrue(answer == [-6] or len(answer) == 1 + 6 * answer[0])

    def ends(self, text, wide, bands, font=FONT, side=2, spans=None, boxes=(), size=640):
        # All calls break the text alike, so with way 1 two of them will do, by turns.
        LargeTest.turns += 1
        by_turns = ((lines, caret), (letters, widths), (heights, at))
        for way, calls in ((0, CALLS), (1, by_turns[self.turns % 3])):
            given = [side, wide, 100, 3, way, spans or [len(text), 0, size], list(boxes), bands, text, [font]]
            for call in calls:
                self.shape(call, given)

    def test_words(self):
        text = words()
        for wide in (0, 1000, 6000, 20000, 2 ** 24):
            for bands in ([], made_bands(1, 60000, 300), made_bands(2, 2500000, 700), made_bands(3, 400000, wide // 2)):
                self.ends(text, wide, bands)

    def test_places_everywhere(self):
        text = [19968] * 4096
        for wide in (0, 500, 1300, 20000, 1000000):
            for bands in ([], made_bands(2, 2500000, 700), made_bands(3, 400000, wide // 2)):
                self.ends(text, wide, bands)

    def test_letters_of_no_width(self):
        for wide in (0, 1000):
            for bands in ([], made_bands(2, 2500000, 700)):
                self.ends([19969] * 4096, wide, bands)

    def test_joins_that_never_agree(self):
        for wide in (700, 20000):
            for bands in ([], made_bands(2, 2500000, 700)):
                self.ends([19968] * 4096, wide, bands, font=THREES)

    def test_many_paragraphs(self):
        for text in ([10] * 4096, [97, 10] * 2048, [97, 32, 98, 10] * 1024, [97, 32, 173, 1488, 32, 49, 98, 10] * 512):
            self.ends(text, 1500, made_bands(2, 2500000, 700))

    def test_many_spans_and_boxes(self):
        self.ends([97, 32, 98, 32] * 1024, 3000, made_bands(2, 2500000, 700), spans=[1, 0, 640] * 4096)
        self.ends([65532, 32] * 2048, 2 ** 24, made_bands(2, 2 ** 24, 2 ** 23), boxes=[2 ** 20] * 6144)
        self.ends([65532] * 4096, 2 ** 24, made_bands(2, 2 ** 24, 2 ** 23), boxes=[2 ** 20] * 12288)

    def test_isolates(self):
        self.ends([8296] * 4095 + [1488], 1000, [])
        self.ends([8296] * 2000 + [1488] + [8297] * 2095, 1000, [])
        self.ends([8294, 97, 32, 8295, 1488, 32, 49, 8297] * 512, 5000, made_bands(2, 2500000, 700))

    def test_lines_without_end(self):
        bands = [0, 2 ** 24, 0, 0] * 64
        self.ends([19968] * 4096, 0, bands, font=FLAT, size=1000)
        self.ends([19968] * 4096, 0, made_bands(5, 2 ** 24, 5), font=FLAT, size=1000)
        for way in (0, 1):
            given = [0, 0, 0, 0, way, [4096, 0, 1000], [], bands, [19968] * 4096, [FLAT]]
            self.assertEqual(lines(*given), [-6])
            self.assertEqual(letters(*given)[1], 2 ** 24)

    def test_ways_of_one_sum(self):
        # Letters of no width, and lines without room: every way to break them costs the same.
        font_rows = ("font 1 1 0 0", "letter n 0", "letter w 5", "letter v 3", "char 119 w", "char 118 v")
        narrow = font(*font_rows)
        for text, wide, bands in (
            ([97, 32] * 2047 + [119], 5, [0, 5000, 5, 0]),
            ([97, 32] * 2047 + [119], 5, [0, 1000, 5, 0]),
            ([19968] * 4094 + [32, 119], 5, [0, 4090, 5, 0]),
            ([19968] * 4000 + [118, 32] * 48, 5, [0, 1000, 4, 0]),
            (([19968] * 20 + [119, 32]) * 186, 5, sum([[20 * k, 20 * k + 10, 5, 0] for k in range(64)], [])),
        ):
            answer = self.timed(lines, 0, wide, 0, 0, 1, [len(text), 0, 1], [], bands, text, [narrow])
            self.assertTrue(answer == [-6] or len(answer) == 1 + 6 * answer[0])
        # All lines of an odd number of letters are as wide as there is room.
        turns = font("font 1 1 0 0", "letter n 1", "letter b 1", "letter w 5", "char 19969 b", "pair n b -2", "char 119 w")
        text = [19968, 19969] * 500 + [32, 119]
        answer = self.timed(lines, 0, 5, 0, 0, 1, [len(text), 0, 1], [], [0, 5000, 4, 0], text, [turns])
        self.assertEqual(len(answer), 1 + 6 * answer[0])

    def test_rough_texts(self):
        for seed in (1153, 1519, 1689, 1955, 2024, 2548, 5018, 6515):
            self.shape(CALLS[seed % 4], made_rough(seed))

    # Lines of few letters that are not all as wide, beside one band and beside many.
    def test_letters_of_several_widths(self):
        chance = random.Random(11)
        rows = ["letter l%d %d" % (number, chance.randint(300, 1000)) for number in range(8)]
        rows += ["char %d l%d" % (19968 + number, number) for number in range(8)]
        several = font("font 1000 800 200 100", *rows)
        text = [19968 + chance.randrange(8) for _ in range(4096)]
        for wide in (700, 1500, 10000):
            for bands in ([0, 500000, wide // 3, 0], [0, 2 ** 24, wide // 3, 0], made_bands(4, 1000000, wide)):
                self.ends(text, wide, bands, font=several)

    def test_places_in_long_lines(self):
        for text in ([97] * 4096, [97, 32] * 2048, [1488] * 4096, [97, 1488] * 2048, [97, 769] * 2048):
            given = [0, 2 ** 24, 0, 3, 1, [4096, 0, 640], [], [], text, [FONT]]
            for place in (0, 1, 2048, 4095, 4096):
                self.assertEqual(len(self.timed(caret, *given[:5], place, *given[5:])), 4)
            for x in (-2 ** 24, 0, 1000000, 2 ** 24):
                self.assertLessEqual(self.timed(at, *given[:5], x, 5, *given[5:])[0], 4096)

    def test_largest_fonts(self):
        rows = ["font 16384 32767 32767 32767"] + ["letter l%d 32767" % number for number in range(700)]
        rows += ["pair l%d l%d -32768" % (number, number + 1) for number in range(600)]
        data = font(*rows)
        self.assertLess(len(data), 29000)
        given = [0, 5, 0, 3, 1, [4096, 3, 65536], [], [], [19968, 97] * 2048, [data] * 4]
        self.assertGreater(lines(*given)[0], 0)
        # All that may be handed in at once: spans, some of no characters, boxes, bands, and four fonts.
        spans = sum([[1, place % 4, 1 + place * 16] for place in range(4096)], []) + [0, 1, 65536] * 104
        text = ([65532, 32, 97, 19968, 1488, 173, 49, 10] * 512)[:-1] + [8203]
        for way in (0, 1):
            given = [2, 2 ** 24, 2 ** 20, 3, way, spans, [2 ** 20] * 1536, made_bands(2, 2 ** 24, 2 ** 23), text, [data] * 4]
            for call in CALLS:
                self.shape(call, given)


if __name__ == "__main__":
    unittest.main()
