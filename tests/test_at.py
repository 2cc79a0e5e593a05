"""at: the place before which one stands nearest."""

import unittest

from pieces import ACUTE, ALEF, BET, BOX, FONT, LI, PI, SHY, at_of, caret_of, codes, font, lines_of


class NearestTest(unittest.TestCase):
    def places(self, text, xs, **named):
        return [at_of(text, x, 0, **named) for x in xs]

    def test_least_distance(self):
        xs = (-2 ** 24, -1, 0, 4, 5, 6, 14, 15, 16, 25, 26, 30, 31, 2 ** 24)
        self.assertEqual(self.places("aaa", xs), [0, 0, 0, 0, 0, 1, 1, 1, 2, 2, 3, 3, 3, 3])

    def test_lowest_of_the_same_distance(self):
        self.assertEqual(self.places("a  a", (9, 10, 1000), wide=10), [1, 1, 1])
        self.assertEqual(self.places([97, LI, PI, 97], (10, 15, 16)), [1, 1, 4])
        # At an odd level the lowest is the one at the right.
        self.assertEqual(self.places([ALEF, ALEF], (24, 19, 18, 17, 6, 5)), [0, 0, 0, 1, 1, 2])

    def test_several_levels(self):
        # One stands at 0, 10, 57, 42, 28, 15, 23.
        text = [97, 32, ALEF, BET, 32, 49]
        self.assertEqual(self.places(text, (0, 10, 57, 42, 28, 15, 23)), [0, 1, 2, 3, 4, 5, 6])
        self.assertEqual(self.places(text, (12, 13, 19, 20, 25, 26, 35, 36, 49, 50, 1000)),
                         [1, 5, 5, 6, 6, 4, 3, 3, 3, 2, 2])
        # One stands at 47, 47, 42, 27, 13, 0, 8.
        self.assertEqual(self.places(text, (47, 45, 44, 1000, -5, 4, 5), side=1, wide=57), [0, 0, 2, 0, 5, 5, 6])

    def test_joined(self):
        self.assertEqual(self.places("fia", (0, 2, 3, 6, 7, 9, 14, 15)), [0, 0, 1, 1, 2, 2, 2, 3])
        rows = font("font 10 8 2 1", "letter a 10", "letter b 11", "char 1488 a", "join a a b")
        self.assertEqual(self.places([ALEF, ALEF], (11, 9, 8, 3, 2), fonts=[rows]), [0, 0, 1, 1, 2])

    def test_marks(self):
        self.assertEqual(self.places([97, ACUTE, 97], (5, 6, 10, 15, 16)), [0, 1, 1, 1, 3])
        self.assertEqual(self.places([ALEF, ACUTE, BET], (29, 23, 22, 16, 15, 7)), [0, 0, 1, 1, 2, 2])
        # Of room 0 and not placed: it counts as placed on alef, which is the one before it as seen.
        self.assertEqual(self.places([BET, ACUTE, ALEF], (26, 12, 0), side=1, wide=26), [0, 2, 1])
        rows = font("font 10 8 2 1", "letter a 10", "letter m 0", "char 97 a", "char 109 m", "mark m 0 0 0", "pair a m 8")
        self.assertEqual(self.places("am", (10, 18), fonts=[rows]), [1, 1])
        self.assertEqual(self.places("ma", (0, 10), fonts=[rows]), [0, 2])

    def test_without_letters(self):
        self.assertEqual(self.places([LI, 97, PI], (0, 20, 30), side=1, wide=30), [1, 1, 0])
        self.assertEqual(self.places([97, SHY, 98], (10, 9, 8)), [1, 1, 2])
        self.assertEqual(self.places([97, SHY, 97], (11, 12, 13, 1000), wide=14), [1, 1, 1, 1])
        self.assertEqual(self.places([97, SHY], (11, 13)), [1, 2])

    def test_boxes_and_spans(self):
        self.assertEqual(self.places([97, BOX, 97], (13, 14, 22, 23), boxes=[7, 0, 0]), [1, 2, 2, 3])
        self.assertEqual(self.places("ab", (30, 31), spans=[1, 0, 10, 1, 0, 20]), [1, 2])
        other = font("font 10 8 2 1", "letter a 1")
        self.assertEqual(self.places("aab", (11, 12, 20), spans=[1, 0, 10, 2, 1, 10], fonts=[FONT, other]), [2, 3, 3])

    def test_justified(self):
        # One stands at 0, 10, 22, 32, 43, 53.
        self.assertEqual(self.places("a a a b", (16, 17, 37, 38, 48, 49), wide=53, setting=3), [1, 2, 3, 4, 4, 5])
        # The blank is at 14, 5 wide and 10 more; before and behind the mark on it one stands at 24.
        text = [ALEF, 32, ACUTE, BET, 32, BET, BET, BET]
        self.assertEqual(self.places(text, (41, 35, 34, 27, 26, 24, 19, 18, 7, 6), side=1, wide=41, setting=3),
                         [0, 0, 1, 1, 2, 2, 2, 3, 3, 4])


class PlacesTest(unittest.TestCase):
    def test_not_the_lines_end(self):
        self.assertEqual(at_of("a a", 1000, 0, wide=10), 1)
        self.assertEqual(at_of("\u4e00\u4e00", 1000, 0, wide=10), 0)
        self.assertEqual(at_of("\u4e00\u4e00", 1000, 11, wide=10), 2)
        self.assertEqual(at_of("a\nb", 1000, 0), 1)

    def test_the_texts_end(self):
        self.assertEqual(at_of("a\nb", 1000, 11), 3)
        self.assertEqual(at_of("a ", 1000, 0), 1)
        self.assertEqual(at_of([97, ALEF], 10, 0), 2)

    def test_text_that_ends_with_10(self):
        for y in (0, 11, 1000):
            self.assertEqual(at_of("a\n", 1000, y), 1)
            self.assertEqual(at_of("\n", 1000, y), 0)
        self.assertEqual(at_of("a\n\n", 1000, 11), 2)
        self.assertEqual(at_of("a\n\n", 1000, 22), 2)

    def test_empty_text(self):
        for side in (0, 1, 2):
            for setting in range(4):
                for spans in ([], [0, 0, 10]):
                    for x, y in ((0, 0), (-5, 100), (2 ** 24, -2 ** 24)):
                        self.assertEqual(at_of("", x, y, side=side, setting=setting, spans=spans), 0)


class HeightTest(unittest.TestCase):
    def lines(self, text, ys, **named):
        """The lines in which the places lie that are told."""
        return [caret_of(text, at_of(text, 0, y, **named), **named)[0] for y in ys]

    def test_above_within_and_below(self):
        ys = (-2 ** 24, -1, 0, 10, 11, 21, 22, 32, 33, 2 ** 24)
        self.assertEqual(self.lines("a\na\na", ys), [0, 0, 0, 0, 1, 1, 2, 2, 2, 2])
        self.assertEqual([at_of("a\na\na", 0, y) for y in ys], [0, 0, 0, 0, 2, 2, 4, 4, 4, 4])

    def test_empty_lines_before_the_first(self):
        ys = (-5, 0, 10, 11, 21, 22, 32, 33)
        self.assertEqual([at_of("b", 11, y, wide=35, bands=[0, 22, 30, 0]) for y in ys], [1] * 8)
        self.assertEqual([at_of("b\na", 11, y, wide=35, bands=[0, 22, 30, 0]) for y in ys], [1] * 7 + [3])

    def test_empty_lines_between(self):
        bands = [11, 33, 12, 0]
        self.assertEqual([row[:2] for row in lines_of("a\nb\na", wide=30, bands=bands)],
                         [(0, 2), (2, 2), (2, 2), (2, 4), (4, 5)])
        ys = (10, 11, 21, 22, 32, 33, 43, 44, 1000)
        for way in (0, 1):
            self.assertEqual(self.lines("a\nb\na", ys, wide=30, bands=bands, way=way), [0, 3, 3, 3, 3, 3, 3, 4, 4])

    def test_one_high(self):
        flat = font("font 10 0 0 0", "letter a 10")
        self.assertEqual([at_of("a\na\na", 0, y, fonts=[flat]) for y in (-1, 0, 1, 2, 3)], [0, 0, 2, 4, 4])

    def test_more_than_8192_lines(self):
        line = (2 ** 23 - 1) // 11 + 1
        for way in (0, 1):
            named = dict(wide=5, way=way, bands=[0, 2 ** 23, 0, 0])
            ys = (-1, 0, 5000000, line * 11 - 1, line * 11, line * 11 + 10)
            self.assertEqual([at_of("a\nb", 9, y, **named) for y in ys], [1] * 6)
            self.assertEqual([at_of("a\nb", 19, y, **named) for y in (line * 11 + 11, 2 ** 24)], [3, 3])


class LaidTest(unittest.TestCase):
    def test_settings_and_sides(self):
        # One stands at the beginning and 10 further.
        for side, begins in ((0, (0, 25, 12, 0)), (1, (25, 0, 12, 25)), (2, (0, 25, 12, 0))):
            for setting, begin in enumerate(begins):
                found = [at_of("a", begin + x, 0, wide=35, side=side, setting=setting) for x in (0, 5, 6, 10)]
                self.assertEqual(found, [0, 0, 1, 1])
        for setting, begin in enumerate((23, 0, 11, 23)):
            found = [at_of([ALEF], begin + x, 0, wide=35, side=2, setting=setting) for x in (0, 5, 6, 12)]
            self.assertEqual(found, [1, 1, 0, 0])

    def test_bands_and_indent(self):
        bands = [0, 11, 4, 0, 11, 22, 6, 0]
        self.assertEqual([at_of("a a", x, 0, wide=20, indent=3, bands=bands) for x in (7, 12, 13)], [0, 0, 1])
        self.assertEqual([at_of("a a", x, 11, wide=20, indent=3, bands=bands) for x in (6, 11, 12)], [2, 2, 3])

    def test_rest_below_0(self):
        self.assertEqual([at_of("b", x, 0, wide=15, setting=1) for x in (-5, 5, 6)], [0, 0, 1])

    def test_where_one_stands_is_nearest(self):
        text = codes("ab fi a a") + [ALEF, BET, 32, 49, ACUTE, 10, 97, 32, BOX, SHY, 98]
        named = dict(wide=60, side=2, setting=3, way=1, indent=5, bands=[0, 11, 3, 4, 22, 33, 0, 40], boxes=[9, 1, 1])
        for place in range(len(text) + 1):
            line, x, top, bottom = caret_of(text, place, **named)
            for y in (top, bottom - 1):
                found = at_of(text, x, y, **named)
                self.assertLessEqual(found, place)
                self.assertEqual(caret_of(text, found, **named), [line, x, top, bottom])


if __name__ == "__main__":
    unittest.main()
