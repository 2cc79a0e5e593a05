"""heights: how high a line is, and all lines together."""

import unittest

from brokenlines.laying import heights, lines
from pieces import ALEF, BOX, FONT, HIGH, SHY, codes, font, heights_of, piece


def flat(*numbers):
    return font("font %d %d %d %d" % numbers, "letter a 10")


class LineTest(unittest.TestCase):
    def line(self, text="a", **named):
        """A line's height, up, down, gap."""
        return heights_of(text, **named)[:4]

    def test_form(self):
        answer = heights(*piece("a"))
        self.assertEqual(answer, [0, 11, 8, 2, 1, 11])
        self.assertIsInstance(answer, list)
        self.assertTrue(all(type(number) is int for number in answer))

    def test_no_spans(self):
        for fonts in ([FONT], [FONT] * 4):
            self.assertEqual(heights(*piece("", spans=[], fonts=fonts)), [0, 1, 0, 0, 0, 0])

    def test_fonts_without_height(self):
        self.assertEqual(self.line(fonts=[flat(10, 0, 0, 0)]), (1, 0, 0, 0))
        # Less than half a step of each.
        self.assertEqual(self.line(fonts=[flat(10, 4, 4, 4)], spans=[1, 0, 1]), (1, 0, 0, 0))

    def test_one_high(self):
        self.assertEqual(self.line(fonts=[flat(10, 1, 0, 0)]), (1, 1, 0, 0))
        self.assertEqual(self.line(fonts=[flat(10, 0, 1, 0)]), (1, 0, 1, 0))
        self.assertEqual(self.line(fonts=[flat(10, 0, 0, 1)]), (1, 0, 0, 1))
        self.assertEqual(self.line(fonts=[flat(10, 1, 0, 1)]), (2, 1, 0, 1))

    def test_scaled(self):
        self.assertEqual(self.line(spans=[1, 0, 20]), (22, 16, 4, 2))
        # 5.6, 1.4 and 0.7: each rounded by itself, ahead of the sum.
        self.assertEqual(self.line(spans=[1, 0, 7]), (8, 6, 1, 1))
        # A half is rounded up.
        self.assertEqual(self.line(spans=[1, 0, 1], fonts=[flat(2, 1, 3, 5)]), (6, 1, 2, 3))
        self.assertEqual(self.line(spans=[1, 0, 10], fonts=[flat(3, 1, 2, 4)]), (23, 3, 7, 13))
        self.assertEqual(self.line(spans=[1, 0, 1], fonts=[flat(16384, 8191, 8192, 24575)]), (2, 0, 1, 1))
        self.assertEqual(self.line(spans=[1, 0, 1], fonts=[flat(16384, 8191, 8192, 24576)]), (3, 0, 1, 2))

    def test_largest(self):
        most = 32767 * 65536
        self.assertEqual(heights_of("a", spans=[1, 0, 65536], fonts=[flat(1, 32767, 32767, 32767)]),
                         (3 * most, most, most, most, 3 * most))
        self.assertEqual(heights_of([BOX] * 4096, wide=0, boxes=[2 ** 20] * 12288),
                         (2 ** 21 + 1, 2 ** 20, 2 ** 20, 1, 2 ** 21 + 1))

    def test_each_the_greatest_of_its_own(self):
        fonts = [flat(10, 9, 1, 0), flat(10, 2, 7, 1), flat(10, 0, 0, 5), flat(10, 99, 99, 99)]
        self.assertEqual(self.line("aaa", spans=[1, 0, 10, 1, 1, 10, 1, 2, 10], fonts=fonts), (21, 9, 7, 5))
        self.assertEqual(self.line("aaa", spans=[1, 2, 10, 1, 1, 10, 1, 0, 10], fonts=fonts), (21, 9, 7, 5))
        self.assertEqual(self.line("aaa", spans=[1, 2, 10, 1, 1, 10, 1, 1, 10], fonts=fonts), (14, 2, 7, 5))
        # The same font at several sizes.
        self.assertEqual(self.line("aaa", spans=[1, 0, 10, 1, 0, 30, 1, 0, 20]), (33, 24, 6, 3))
        # A font that no span has counts for nothing.
        self.assertEqual(self.line("a", fonts=[FONT, fonts[3]]), (11, 8, 2, 1))

    def test_spans_of_no_characters(self):
        self.assertEqual(heights(*piece("", spans=[0, 0, 10])), [0, 11, 8, 2, 1, 0])
        self.assertEqual(self.line("a", spans=[1, 0, 10, 0, 0, 20]), (22, 16, 4, 2))
        self.assertEqual(self.line("a", spans=[0, 0, 20, 1, 0, 10]), (22, 16, 4, 2))
        self.assertEqual(self.line("aa", spans=[1, 0, 10, 0, 1, 10, 1, 0, 10], fonts=[FONT, flat(10, 0, 9, 0)]),
                         (18, 8, 9, 1))

    def test_spans_of_characters_without_letters(self):
        self.assertEqual(self.line("a\n", spans=[1, 0, 10, 1, 0, 20]), (22, 16, 4, 2))
        self.assertEqual(self.line("a a", spans=[1, 0, 10, 1, 0, 20, 1, 0, 10]), (22, 16, 4, 2))

    def test_boxes(self):
        self.assertEqual(self.line([BOX], boxes=[5, 20, 3]), (24, 20, 3, 1))
        self.assertEqual(self.line([BOX], boxes=[5, 20, 1]), (23, 20, 2, 1))
        self.assertEqual(self.line([BOX], boxes=[5, 1, 30]), (39, 8, 30, 1))
        self.assertEqual(self.line([BOX], boxes=[2 ** 20, 1, 1]), (11, 8, 2, 1))
        self.assertEqual(self.line([BOX, 97, BOX, BOX], boxes=[0, 9, 9, 0, 20, 1, 0, 3, 15]), (36, 20, 15, 1))
        # A box isn't scaled; all of its height and none of its width counts.
        self.assertEqual(self.line([BOX], boxes=[0, 7, 6], fonts=[flat(10, 0, 0, 0)], spans=[1, 0, 30]), (13, 7, 6, 0))
        self.assertEqual(self.line([BOX], boxes=[9, 0, 0], fonts=[flat(10, 0, 0, 0)]), (1, 0, 0, 0))

    def test_all_lines_are_as_high(self):
        text = [97, 10, BOX, 10, 97]
        self.assertEqual(heights_of(text, boxes=[1, 30, 0], spans=[1, 0, 5, 3, 0, 10, 1, 0, 20]), (36, 30, 4, 2, 108))


class AllLinesTest(unittest.TestCase):
    def count(self, text, **named):
        found = heights_of(text, **named)
        self.assertEqual(found[:4], (11, 8, 2, 1))
        self.assertEqual(found[4] % HIGH, 0)
        return found[4] // HIGH

    def test_no_lines(self):
        for named in (dict(), dict(way=1), dict(side=1, setting=3), dict(bands=[0, 500, 0, 0]), dict(wide=0, indent=9)):
            self.assertEqual(self.count("", spans=[0, 0, 10], **named), 0)
            self.assertEqual(heights(*piece("", spans=[], **named)), [0, 1, 0, 0, 0, 0])

    def test_paragraphs(self):
        for way in (0, 1):
            for text, due in (("a", 1), ("a\n", 1), ("\n", 1), ("\n\n", 2), ("a\na", 2), ("a\na\n", 2), ("a\n\na\n\n", 4),
                              (" ", 1), ([8294], 1), ([10] * 4096, 4096), ([97, 10] * 2048, 2048)):
                self.assertEqual(self.count(text, way=way), due, text)

    def test_broken(self):
        self.assertEqual(self.count("a a a", wide=40), 1)
        self.assertEqual(self.count("a a a", wide=39), 2)
        self.assertEqual(self.count("a a a", wide=25), 2)
        self.assertEqual(self.count("a a a", wide=24), 3)
        self.assertEqual(self.count("a a a", wide=0), 3)
        self.assertEqual(self.count("a a a", wide=40, indent=1), 2)
        self.assertEqual(self.count([97, SHY, 97], wide=19), 2)
        self.assertEqual(self.count([ALEF, 32, ALEF], wide=12, side=2), 2)

    def test_both_ways(self):
        self.assertEqual(self.count("bb bb", wide=10), 2)
        self.assertEqual(self.count("bb bb", wide=10, way=1), 1)
        for way, due in ((0, 4), (1, 2)):
            self.assertEqual(self.count("bb bb\nbb bb", wide=10, way=way), due)

    def test_empty_lines_before_the_first(self):
        for way in (0, 1):
            self.assertEqual(self.count("b", wide=35, bands=[0, 22, 30, 0], way=way), 3)
            self.assertEqual(self.count("b", wide=35, bands=[0, 23, 30, 0], way=way), 4)
            self.assertEqual(self.count("b\na", wide=35, bands=[0, 22, 30, 0], way=way), 4)
            # It stands in a line that it doesn't fit in only below the bands.
            self.assertEqual(self.count("b", wide=15, bands=[0, 22, 0, 0], way=way), 3)
            self.assertEqual(self.count("b", wide=35, indent=16, bands=[0, 11, 0, 0], way=way), 2)

    def test_empty_lines_between(self):
        for way in (0, 1):
            self.assertEqual(self.count("a\nb\na", wide=30, bands=[11, 33, 12, 0], way=way), 5)
            self.assertEqual(self.count("a b", wide=30, bands=[11, 33, 0, 12], way=way), 4)

    def test_bands_below_the_text(self):
        for way in (0, 1):
            self.assertEqual(self.count("a", wide=5, bands=[11, 2 ** 24, 0, 0], way=way), 1)
            self.assertEqual(self.count("a\n", wide=5, bands=[11, 2 ** 24, 0, 0], way=way), 1)
            self.assertEqual(self.count("a", wide=5, bands=[22, 11, 0, 0, 5, 5, 9, 9], way=way), 1)

    def test_more_than_8192_lines(self):
        far = (2 ** 24 - 1) // HIGH + 1
        for way in (0, 1):
            self.assertEqual(self.count("a", wide=5, bands=[0, HIGH * 8191, 0, 0], way=way), 8192)
            self.assertEqual(self.count("a", wide=5, bands=[0, HIGH * 8192, 0, 0], way=way), 8193)
            self.assertEqual(lines(*piece("a", wide=5, bands=[0, HIGH * 8192, 0, 0], way=way)), [-6])
            self.assertEqual(self.count("a", wide=5, bands=[0, 2 ** 24, 0, 0], way=way), far + 1)
            self.assertEqual(self.count("a\na a", wide=5, bands=[0, 2 ** 24, 0, 0]), far + 3)
        self.assertEqual(heights_of("a", wide=5, bands=[0, 2 ** 24, 0, 0], fonts=[flat(10, 0, 0, 0)]),
                         (1, 0, 0, 0, 2 ** 24 + 1))

    def test_setting_changes_nothing(self):
        for way in (0, 1):
            for side in (0, 1, 2):
                found = [self.count("a a ab fi a", wide=33, way=way, side=side, setting=setting) for setting in range(4)]
                self.assertEqual(len(set(found)), 1)

    def test_as_many_as_lines_tells(self):
        text = codes("ab fi a a") + [ALEF, 32, 49, 10, 97, 32, BOX, SHY, 98, 19968, 19968, 10, 10]
        for way in (0, 1):
            for side in (0, 1, 2):
                for wide in (0, 9, 25, 40, 75, 1000):
                    for bands in ([], [0, 22, 5, 4], [14, 25, 1000, 0, 40, 41, 0, 0]):
                        named = dict(way=way, side=side, wide=wide, bands=bands, boxes=[9, 1, 1], indent=6)
                        self.assertEqual(self.count(text, **named), lines(*piece(text, **named))[0])


if __name__ == "__main__":
    unittest.main()
