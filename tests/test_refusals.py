"""What is refused, and which of two refusals comes first."""

import unittest

from brokenlines.laying import letters, lines
from pieces import BOX, FONT, font, piece

WRONG = font("font 10 8 2 1", "letter a 5", "lettre b 5")


class RefusalTest(unittest.TestCase):
    def both(self, expected, text, **named):
        self.assertEqual(lines(*piece(text, **named)), [expected])
        self.assertEqual(letters(*piece(text, **named)), [expected])

    def right(self, text, **named):
        self.assertGreaterEqual(lines(*piece(text, **named))[0], 0)
        self.assertGreaterEqual(letters(*piece(text, **named))[0], 0)

    def test_single_numbers(self):
        for name, most in (("side", 2), ("wide", 2 ** 24), ("indent", 2 ** 20), ("setting", 3), ("way", 1)):
            self.right("a a", **{name: 0})
            self.right("a a", **{name: most})
            self.both(-8, "a a", **{name: most + 1})
            self.both(-8, "a a", **{name: 2 ** 32 - 1})

    def test_spans(self):
        self.right("aaa", spans=[3, 0, 1])
        self.right("aaa", spans=[3, 0, 65536])
        self.right("aaa", spans=[1, 0, 5, 0, 0, 7, 2, 0, 9])
        self.both(-8, "aaa", spans=[3, 0, 0])
        self.both(-8, "aaa", spans=[3, 0, 65537])
        self.both(-8, "aaa", spans=[3, 1, 10])
        self.both(-8, "aaa", spans=[3, 2 ** 32 - 1, 10])
        self.both(-8, "aaa", spans=[2, 0, 10])
        self.both(-8, "aaa", spans=[4, 0, 10])
        self.both(-8, "aaa", spans=[2 ** 32 - 1, 0, 10])
        self.both(-8, "aaa", spans=[2, 0, 10, 2, 0, 10])
        self.both(-8, "aaa", spans=[])
        self.both(-8, "aaa", spans=[3, 0, 10, 0, 0, 0])
        self.both(-8, "aaa", spans=[3, 0, 10, 0, 1, 10])
        self.right("aaa", spans=[3, 3, 10], fonts=[FONT] * 4)
        self.both(-8, "aaa", spans=[3, 4, 10], fonts=[FONT] * 4)

    def test_boxes(self):
        text = [97, BOX]
        self.right(text, boxes=[2 ** 20, 2 ** 20, 2 ** 20])
        self.right(text, boxes=[0, 0, 0])
        for at in range(3):
            boxes = [1, 1, 1]
            boxes[at] = 2 ** 20 + 1
            self.both(-8, text, boxes=boxes)
        self.both(-8, text, boxes=[])
        self.both(-8, text, boxes=[1, 1, 1, 1, 1, 1])
        self.both(-8, "a", boxes=[1, 1, 1])

    def test_bands(self):
        self.right("a", bands=[2 ** 24] * 4)
        self.right("a", bands=[5, 2, 0, 0])
        for at in range(4):
            bands = [0, 1, 1, 1]
            bands[at] = 2 ** 24 + 1
            self.both(-8, "a", bands=bands)
        self.right("a", bands=[0, 1, 1, 1] * 64)
        self.both(-8, "a", bands=[0, 1, 1, 1] * 65)

    def test_text(self):
        for code in (0, 55295, 57344, 1114111):
            self.right([code])
        for code in (55296, 56000, 57343, 1114112, 2 ** 32 - 1):
            self.both(-8, [97, code])
        self.right([97] * 4096)
        self.both(-8, [97] * 4097)

    def test_font_behind_numbers(self):
        self.both(-5, "aaa", fonts=[WRONG])
        self.both(-8, "aaa", fonts=[WRONG], setting=4)
        self.both(-8, "aaa", fonts=[WRONG], spans=[2, 0, 10])
        self.both(-8, [97, BOX], fonts=[WRONG])
        self.both(-8, "a", fonts=[WRONG], bands=[0, 0, 0, 2 ** 24 + 1])
        self.both(-8, [55296], fonts=[WRONG])

    def test_which_font(self):
        self.both(-100005, "aaa", fonts=[FONT, WRONG])
        self.both(-200005, "aaa", fonts=[FONT, FONT, WRONG, FONT])
        self.both(-300003, "aaa", fonts=[FONT, FONT, FONT, []])
        self.both(-100003, "aaa", fonts=[FONT, [], WRONG])
        self.both(-5, "aaa", fonts=[WRONG, []])

    def test_font_is_looked_at_though_it_is_not_used(self):
        self.both(-3, "", fonts=[[]])
        self.both(-5, "", spans=[], fonts=[WRONG])

    def test_font_ahead_of_too_many_lines(self):
        bands = [0, 11 * 8192, 0, 0]
        self.assertEqual(lines(*piece("a", wide=5, bands=bands)), [-6])
        self.assertEqual(lines(*piece("a", wide=5, bands=bands, fonts=[WRONG])), [-5])
        self.assertEqual(lines(*piece("a", wide=5, bands=bands, fonts=[WRONG], way=2)), [-8])


class TooManyLinesTest(unittest.TestCase):
    def test_empty_lines_are_counted(self):
        for way in (0, 1):
            answer = lines(*piece("a", wide=5, way=way, bands=[0, 11 * 8191, 0, 0]))
            self.assertEqual(answer[0], 8192)
            self.assertEqual(len(answer), 1 + 6 * 8192)
            self.assertEqual(answer[1:7], [0, 0, 0, 0, 8, 0])
            self.assertEqual(answer[-12:-6], [0, 0, 0, 0, 8190 * 11 + 8, 0])
            self.assertEqual(answer[-6:], [0, 1, 0, 10, 8191 * 11 + 8, 1])
            self.assertEqual(lines(*piece("a", wide=5, way=way, bands=[0, 11 * 8191 + 1, 0, 0])), [-6])

    def test_lines_between_are_counted(self):
        text = "\n" * 4094 + "aa"
        self.assertEqual(lines(*piece(text, bands=[11 * 4094, 11 * 8191, 0, 991]))[0], 8192)
        self.assertEqual(lines(*piece(text, bands=[11 * 4094, 11 * 8192, 0, 991])), [-6])
        self.assertEqual(lines(*piece("\n" * 4094, bands=[11 * 4094, 11 * 8192, 0, 991]))[0], 4094)

    def test_letters_have_no_such_refusal(self):
        answer = letters(*piece("ab", wide=5, bands=[0, 2 ** 24, 0, 0]))
        line = 2 ** 24 // 11 + 1
        self.assertEqual(answer, [2, line, 0, 1, 0, 0, line * 11 + 8, line, 0, 2, 1, 8, line * 11 + 8])

    def test_bands_below_the_text_leave_no_lines(self):
        self.assertEqual(lines(*piece("a", wide=5, bands=[11, 2 ** 24, 0, 0])), [1, 0, 1, 0, 10, 8, 1])


class UnchangedTest(unittest.TestCase):
    def test_as_it_was_and_answered_alike(self):
        for call in (lines, letters):
            for way in (0, 1):
                given = piece([97, 32, 97, BOX, 32, 98, 10, 1488, 97, 32, 49, 173, 98], side=2, wide=40, setting=3,
                              way=way, spans=[4, 0, 10, 9, 1, 12], boxes=[5, 20, 3], bands=[0, 30, 5, 4],
                              fonts=[FONT, FONT])
                before = repr(given)
                first = call(*given)
                self.assertEqual(repr(given), before)
                call(*piece("b b b", setting=3))
                self.assertEqual(call(*given), first)
                self.assertIsInstance(first, list)
                self.assertTrue(all(type(number) is int for number in first))


if __name__ == "__main__":
    unittest.main()
