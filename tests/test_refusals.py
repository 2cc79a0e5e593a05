"""What is refused, and which of two refusals comes first."""

import unittest

from brokenlines.laying import at, caret, heights, letters, lines, widths
from pieces import BOX, FONT, at_of, caret_of, font, piece

WRONG = font("font 10 8 2 1", "letter a 5", "lettre b 5")


class RefusalTest(unittest.TestCase):
    def all(self, expected, text, **named):
        self.assertEqual(lines(*piece(text, **named)), [expected])
        self.assertEqual(letters(*piece(text, **named)), [expected])
        self.assertEqual(caret_of(text, 0, **named), [expected])
        self.assertEqual(at_of(text, 0, 0, **named), expected)
        self.assertEqual(widths(*piece(text, **named)), [expected])
        self.assertEqual(heights(*piece(text, **named)), [expected])

    def right(self, text, **named):
        self.assertGreaterEqual(lines(*piece(text, **named))[0], 0)
        self.assertGreaterEqual(letters(*piece(text, **named))[0], 0)
        self.assertEqual(len(caret_of(text, 0, **named)), 4)
        self.assertGreaterEqual(at_of(text, 0, 0, **named), 0)
        for call, count in ((widths, 3), (heights, 6)):
            answer = call(*piece(text, **named))
            self.assertTrue(len(answer) == count and answer[0] == 0 and min(answer) == 0, answer)

    def test_single_numbers(self):
        for name, most in (("side", 2), ("wide", 2 ** 24), ("indent", 2 ** 20), ("setting", 3), ("way", 1)):
            self.right("a a", **{name: 0})
            self.right("a a", **{name: most})
            self.all(-8, "a a", **{name: most + 1})
            self.all(-8, "a a", **{name: 2 ** 32 - 1})

    def test_spans(self):
        self.right("aaa", spans=[3, 0, 1])
        self.right("aaa", spans=[3, 0, 65536])
        self.right("aaa", spans=[1, 0, 5, 0, 0, 7, 2, 0, 9])
        self.all(-8, "aaa", spans=[3, 0, 0])
        self.all(-8, "aaa", spans=[3, 0, 65537])
        self.all(-8, "aaa", spans=[3, 1, 10])
        self.all(-8, "aaa", spans=[3, 2 ** 32 - 1, 10])
        self.all(-8, "aaa", spans=[2, 0, 10])
        self.all(-8, "aaa", spans=[4, 0, 10])
        self.all(-8, "aaa", spans=[2 ** 32 - 1, 0, 10])
        self.all(-8, "aaa", spans=[2, 0, 10, 2, 0, 10])
        self.all(-8, "aaa", spans=[])
        self.all(-8, "aaa", spans=[3, 0, 10, 0, 0, 0])
        self.all(-8, "aaa", spans=[3, 0, 10, 0, 1, 10])
        self.right("aaa", spans=[3, 3, 10], fonts=[FONT] * 4)
        self.all(-8, "aaa", spans=[3, 4, 10], fonts=[FONT] * 4)

    def test_boxes(self):
        text = [97, BOX]
        self.right(text, boxes=[2 ** 20, 2 ** 20, 2 ** 20])
        self.right(text, boxes=[0, 0, 0])
        for at in range(3):
            boxes = [1, 1, 1]
            boxes[at] = 2 ** 20 + 1
            self.all(-8, text, boxes=boxes)
        self.all(-8, text, boxes=[])
        self.all(-8, text, boxes=[1, 1, 1, 1, 1, 1])
        self.all(-8, "a", boxes=[1, 1, 1])

    def test_bands(self):
        self.right("a", bands=[2 ** 24] * 4)
        self.right("a", bands=[5, 2, 0, 0])
        for at in range(4):
            bands = [0, 1, 1, 1]
            bands[at] = 2 ** 24 + 1
            self.all(-8, "a", bands=bands)
        self.right("a", bands=[0, 1, 1, 1] * 64)
        self.all(-8, "a", bands=[0, 1, 1, 1] * 65)

    def test_text(self):
        for code in (0, 55295, 57344, 1114111):
            self.right([code])
        for code in (55296, 56000, 57343, 1114112, 2 ** 32 - 1):
            self.all(-8, [97, code])
        self.right([97] * 4096)
        self.all(-8, [97] * 4097)

    def test_font_behind_numbers(self):
        self.all(-5, "aaa", fonts=[WRONG])
        self.all(-8, "aaa", fonts=[WRONG], setting=4)
        self.all(-8, "aaa", fonts=[WRONG], indent=2 ** 20 + 1)
        self.all(-8, "aaa", fonts=[WRONG], way=2)
        self.all(-8, "aaa", fonts=[WRONG], wide=2 ** 24 + 1)
        self.all(-8, "aaa", fonts=[WRONG], spans=[2, 0, 10])
        self.all(-8, [97, BOX], fonts=[WRONG])
        self.all(-8, "a", fonts=[WRONG], bands=[0, 0, 0, 2 ** 24 + 1])
        self.all(-8, [55296], fonts=[WRONG])

    def test_which_font(self):
        self.all(-100005, "aaa", fonts=[FONT, WRONG])
        self.all(-200005, "aaa", fonts=[FONT, FONT, WRONG, FONT])
        self.all(-300003, "aaa", fonts=[FONT, FONT, FONT, []])
        self.all(-100003, "aaa", fonts=[FONT, [], WRONG])
        self.all(-5, "aaa", fonts=[WRONG, []])

    def test_font_is_looked_at_though_it_is_not_used(self):
        self.all(-3, "", fonts=[[]])
        self.all(-5, "", spans=[], fonts=[WRONG])

    def test_font_ahead_of_too_many_lines(self):
        bands = [0, 11 * 8192, 0, 0]
        self.assertEqual(lines(*piece("a", wide=5, bands=bands)), [-6])
        self.assertEqual(lines(*piece("a", wide=5, bands=bands, fonts=[WRONG])), [-5])
        self.assertEqual(lines(*piece("a", wide=5, bands=bands, fonts=[WRONG], way=2)), [-8])


class PlaceTest(unittest.TestCase):
    def test_no_such_place_behind_all_others(self):
        self.assertEqual(caret_of("aaa", 4), [-5])
        self.assertEqual(caret_of("aaa", 4, fonts=[[]]), [-3])
        self.assertEqual(caret_of("aaa", 4, fonts=[FONT, []]), [-100003])
        self.assertEqual(caret_of("aaa", 4, fonts=[[]], setting=4), [-8])
        self.assertEqual(caret_of("aaa", 2 ** 32 - 1, spans=[2, 0, 10]), [-8])
        self.assertEqual(caret_of("", 1, spans=[], fonts=[[]]), [-3])

    def test_no_such_place_and_too_many_lines(self):
        bands = [0, 2 ** 24, 0, 0]
        self.assertEqual(caret_of("a", 2, wide=5, bands=bands), [-5])
        self.assertEqual(len(caret_of("a", 1, wide=5, bands=bands)), 4)
        self.assertEqual(at_of("a", 0, 0, wide=5, bands=bands), 0)

    def test_point(self):
        for x, y in ((-2 ** 24, 0), (2 ** 24, 0), (0, -2 ** 24), (0, 2 ** 24), (2 ** 24, 2 ** 24)):
            self.assertIn(at_of("a", x, y), (0, 1))
        for far in (-2 ** 24 - 1, 2 ** 24 + 1, -2 ** 31, 2 ** 31 - 1):
            for x, y in ((far, 0), (0, far), (far, far)):
                self.assertEqual(at_of("a", x, y), -8)
                self.assertEqual(at_of("", x, y, spans=[]), -8)
                self.assertEqual(at_of("a", x, y, fonts=[[]]), -8)


class TooManyLinesTest(unittest.TestCase):
    def test_empty_lines_are_counted(self):
        for way in (0, 1):
            answer = lines(*piece("a", wide=5, way=way, bands=[0, 11 * 8191, 0, 0]))
            self.assertEqual(answer[0], 8192)
            self.assertEqual(len(answer), 1 + 6 * 8192)
            self.assertEqual(answer[1:7], [0, 0, 0, 0, 8, 0])
            self.assertEqual(answer[-12:-6], [0, 0, 0, 0, 8190 * 11 + 8, 0])
            self.assertEqual(answer[-6:], [0, 1, 0, 10, 8191 * 11 + 8, 1])
            self.assertEqual(lines(*piece("a", wide=5, way=way, bands=[0, 11 * 8191 + 1, 0, 0])), [-6])

    def test_lines_between_are_counted(self):
        text = "\n" * 4094 + "aa"
        self.assertEqual(lines(*piece(text, bands=[11 * 4094, 11 * 8191, 0, 991]))[0], 8192)
        self.assertEqual(lines(*piece(text, bands=[11 * 4094, 11 * 8192, 0, 991])), [-6])
        self.assertEqual(lines(*piece("\n" * 4094, bands=[11 * 4094, 11 * 8192, 0, 991]))[0], 4094)

    def test_letters_have_no_such_refusal(self):
        answer = letters(*piece("ab", wide=5, bands=[0, 2 ** 24, 0, 0]))
        line = 2 ** 24 // 11 + 1
        self.assertEqual(answer, [2, line, 0, 1, 0, 0, line * 11 + 8, line, 0, 2, 1, 8, line * 11 + 8])

    def test_bands_below_the_text_leave_no_lines(self):
        self.assertEqual(lines(*piece("a", wide=5, bands=[11, 2 ** 24, 0, 0])), [1, 0, 1, 0, 10, 8, 1])


class UnchangedTest(unittest.TestCase):
    def test_as_it_was_and_answered_alike(self):
        for call, more in ((lines, ()), (letters, ()), (caret, (9,)), (caret, (13,)), (at, (7, 30)), (widths, ()),
                           (heights, ())):
            for way in (0, 1):
                given = piece([97, 32, 97, BOX, 32, 98, 10, 1488, 97, 32, 49, 173, 98], side=2, wide=40, setting=3,
                              way=way, spans=[4, 0, 10, 9, 1, 12], boxes=[5, 20, 3], bands=[0, 30, 5, 4],
                              fonts=[FONT, FONT])
                given[5:5] = more
                other = piece("b b b", setting=3)
                other[5:5] = more
                before = repr(given)
                first = call(*given)
                self.assertEqual(repr(given), before)
                call(*other)
                self.assertEqual(call(*given), first)
                self.assertIsInstance(first, list)
                self.assertTrue(all(type(number) is int for number in first))


if __name__ == "__main__":
    unittest.main()
