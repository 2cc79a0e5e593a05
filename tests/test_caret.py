"""caret: where one stands before each character, and at the text's end."""

import unittest

from brokenlines.laying import letters
from pieces import (ACUTE, ALEF, BET, BOX, FONT, HAT, LI, PI, RI, SHY, caret_of, font, letters_of, piece, stands_of,
                    xs_of)


class AnswerTest(unittest.TestCase):
    def test_four_numbers(self):
        self.assertEqual(caret_of("ab", 0), [0, 0, 0, 11])
        self.assertEqual(caret_of("ab", 1), [0, 8, 0, 11])
        self.assertEqual(caret_of("ab", 2), [0, 28, 0, 11])
        self.assertEqual(caret_of("a\nb", 1), [0, 10, 0, 11])
        self.assertEqual(caret_of("a\nb", 2), [1, 0, 11, 22])
        self.assertEqual(caret_of("a\nb", 3), [1, 20, 11, 22])

    def test_heights(self):
        tall = font("font 10 30 1 4", "letter a 10")
        self.assertEqual(caret_of("a\na", 2, spans=[1, 0, 10, 2, 1, 10], fonts=[tall, FONT]), [1, 0, 36, 72])
        self.assertEqual(caret_of([97, 10, BOX], 3, boxes=[5, 50, 40]), [1, 5, 91, 182])
        flat = font("font 10 0 0 0", "letter a 10")
        self.assertEqual(caret_of("a\na", 3, fonts=[flat]), [1, 10, 1, 2])

    def test_lines(self):
        for way in (0, 1):
            self.assertEqual(stands_of("a a a", wide=25, way=way), [(0, 0), (0, 10), (0, 15), (0, 25), (1, 0), (1, 10)])
        # Way 1 breaks otherwise than way 0.
        text = "aa aa a bb aa"
        self.assertEqual(caret_of(text, 6, wide=60)[:2], [0, 50])
        self.assertEqual(caret_of(text, 6, wide=60, way=1)[:2], [1, 0])

    def test_no_such_place(self):
        self.assertEqual(caret_of("ab", 3), [-5])
        self.assertEqual(caret_of("ab", 2 ** 32 - 1), [-5])
        self.assertEqual(caret_of("a\n", 3), [-5])
        self.assertEqual(caret_of("", 1), [-5])
        self.assertEqual(caret_of("", 0), [0, 0, 0, 11])


class LetterTest(unittest.TestCase):
    def test_even_and_odd(self):
        self.assertEqual(xs_of("aba"), [0, 8, 28, 38])
        self.assertEqual(xs_of([ALEF, BET]), [29, 14, 0])
        self.assertEqual(xs_of([ALEF, BET], side=1, wide=30), [30, 15, 1])

    def test_several_levels(self):
        text = [97, 32, ALEF, BET, 32, 49]
        self.assertEqual(xs_of(text), [0, 10, 57, 42, 28, 15, 23])
        self.assertEqual(xs_of(text, side=1, wide=57), [47, 47, 42, 27, 13, 0, 8])
        self.assertEqual(xs_of([97, RI, 98, 32, ALEF, PI, 98]), [0, 10, 27, 27, 22, 10, 47, 67])

    def test_characters_that_the_font_does_not_have(self):
        self.assertEqual(xs_of("xay"), [0, 10, 20, 30])

    def test_room_0(self):
        self.assertEqual(xs_of([97, 0x4e01, 97]), [0, 10, 10, 20])

    def test_spans_and_fonts(self):
        self.assertEqual(xs_of("ab", spans=[1, 0, 10, 1, 0, 20]), [0, 10, 50])
        other = font("font 10 8 2 1", "letter a 1", "letter b 3", "char 98 b")
        self.assertEqual(xs_of("abab", spans=[2, 0, 10, 2, 1, 20], fonts=[FONT, other]), [0, 8, 28, 30, 36])

    def test_box(self):
        self.assertEqual(xs_of([97, BOX, 97], boxes=[7, 0, 0]), [0, 10, 17, 27])
        self.assertEqual(xs_of([ALEF, BOX, BET], boxes=[7, 0, 0]), [33, 21, 14, 0])
        self.assertEqual(xs_of([BOX, BOX], boxes=[7, 0, 0, 0, 0, 0]), [0, 7, 7])

    def test_shown_hyphen(self):
        self.assertEqual(stands_of([97, SHY, 97], wide=14), [(0, 0), (0, 10), (1, 0), (1, 10)])
        self.assertEqual(xs_of([97, SHY]), [0, 10, 14])
        self.assertEqual(stands_of([97, SHY, 32, 97], wide=14), [(0, 0), (0, 10), (0, 14), (1, 0), (1, 10)])
        self.assertEqual(xs_of([ALEF, SHY], side=1, wide=16), [16, 4, 0])


class JoinedTest(unittest.TestCase):
    ROWS = ("font 10 8 2 1", "letter a 10", "letter b 11", "letter c 10", "letter z 0", "letter x 11", "letter y 10",
            "char 97 a", "char 98 b", "char 99 c", "char 1488 x", "char 1489 y", "char 122 z", "char 45 a",
            "join a a b", "join b a c", "join x y b", "join b x c", "join c c z", "join y y z")

    def xs(self, text, **named):
        return xs_of(text, fonts=[font(*self.ROWS)], **named)

    def test_cut_off(self):
        self.assertEqual(xs_of("fi"), [0, 4, 9])
        self.assertEqual(xs_of("afia"), [0, 10, 14, 19, 29])
        self.assertEqual(self.xs("aa"), [0, 5, 11])
        self.assertEqual(self.xs("aaa"), [0, 3, 6, 10])
        self.assertEqual(self.xs("aaaaa"), [0, 3, 6, 10, 15, 21])

    def test_odd_level(self):
        self.assertEqual(self.xs([ALEF, BET]), [11, 6, 0])
        self.assertEqual(self.xs([ALEF, BET, ALEF]), [10, 7, 4, 0])
        self.assertEqual(self.xs([ALEF, BET, 97]), [11, 6, 11, 21])

    def test_room_0(self):
        self.assertEqual(self.xs("acc"), [0, 10, 10, 10])
        self.assertEqual(self.xs([ALEF, 33, BET, BET]), [21, 10, 0, 0, 0])

    def test_across_what_has_no_letter(self):
        # Of the letter's two characters i is the second; before what has no letter one stands behind that letter.
        self.assertEqual(xs_of([102, SHY, 105]), [0, 9, 4, 9])
        self.assertEqual(xs_of([102, LI, PI, 105, 97]), [0, 9, 9, 4, 9, 19])

    def test_with_the_shown_hyphen(self):
        self.assertEqual(self.xs([97, SHY]), [0, 5, 11])

    def test_not_beyond_a_span(self):
        self.assertEqual(xs_of("fi", spans=[1, 0, 10, 1, 0, 10]), [0, 6, 10])


class MarkTest(unittest.TestCase):
    def test_before_and_behind(self):
        self.assertEqual(xs_of([97, ACUTE, 97]), [0, 10, 10, 20])
        self.assertEqual(xs_of([97, ACUTE]), [0, 10, 10])
        self.assertEqual(xs_of([97, ACUTE, ACUTE, SHY, 98]), [0, 10, 10, 10, 8, 28])

    def test_odd_level(self):
        self.assertEqual(xs_of([ALEF, ACUTE, BET]), [29, 17, 14, 0])
        self.assertEqual(xs_of([ALEF, ACUTE]), [12, 0, 0])
        self.assertEqual(xs_of([ALEF, ACUTE, ACUTE, SHY, BET]), [29, 17, 17, 17, 14, 0])

    def test_mark_with_a_room_of_its_own(self):
        rows = font("font 10 8 2 1", "letter a 10", "letter m 3", "letter n 4", "letter mm 5", "char 97 a",
                    "char 109 m", "char 110 n", "char 1488 a", "char 769 m", "base a 0 7 7", "mark m 0 1 1",
                    "mark mm 0 1 1", "join n n mm")
        # It's placed, so its own room is nothing to go by.
        self.assertEqual(xs_of("ama", fonts=[rows]), [0, 10, 10, 20])
        self.assertEqual(xs_of("am", fonts=[rows]), [0, 10, 10])
        self.assertEqual(xs_of([ALEF, ACUTE], fonts=[rows]), [10, 0, 0])
        # Not placed, it's as any other.
        self.assertEqual(xs_of("ma", fonts=[rows]), [0, 3, 13])
        self.assertEqual(xs_of("amnna", fonts=[rows]), [0, 10, 10, 10, 10, 20])

    def test_on_what_has_been_joined(self):
        rows = font("font 10 8 2 1", "letter f 6", "letter fi 9", "letter m 0", "char 102 f", "char 769 m",
                    "join f f fi", "base fi 0 1 1", "mark m 0 1 1")
        self.assertEqual(xs_of([102, 102, ACUTE, 102], fonts=[rows]), [0, 4, 9, 9, 15])

    def test_not_placed_with_room(self):
        self.assertEqual(xs_of([97, HAT, 97]), [0, 10, 13, 23])

    def test_room_0_and_not_placed(self):
        self.assertEqual(xs_of([98, ACUTE, 97]), [0, 20, 20, 30])
        self.assertEqual(xs_of([98, ACUTE, ACUTE, SHY, 97]), [0, 20, 20, 20, 20, 30])
        rows = font("font 10 8 2 1", "letter a 10", "letter m 0", "letter n 0", "char 97 a", "char 109 m", "char 110 n",
                    "mark m 0 0 0", "mark n 1 2 2", "base a 1 9 9", "pair a m 4", "pair m a 3", "pair m m 5")
        # It stands further right, but counts as placed on what's before it.
        self.assertEqual([row[4] for row in letters_of("am", fonts=[rows])], [0, 14])
        self.assertEqual(xs_of("am", fonts=[rows]), [0, 10, 10])
        self.assertEqual(xs_of("ama", fonts=[rows]), [0, 10, 17, 27])
        self.assertEqual(xs_of("ammm", fonts=[rows]), [0, 10, 10, 10, 10])
        # Also behind a mark that is placed.
        self.assertEqual(xs_of("anm", fonts=[rows]), [0, 10, 10, 10])

    def test_room_0_and_not_placed_at_an_odd_level(self):
        # As seen: alef, the mark, bet; so it counts as placed on alef.
        self.assertEqual(xs_of([BET, ACUTE, ALEF], side=1, wide=26), [26, 0, 12, 0])
        self.assertEqual(xs_of([ACUTE, BET], side=1, wide=14), [0, 14, 0])

    def test_room_0_and_the_first_of_its_stretch(self):
        self.assertEqual(xs_of([ACUTE, 98]), [0, 0, 20])
        self.assertEqual(xs_of([ACUTE]), [0, 0])
        self.assertEqual(xs_of([98, ACUTE], spans=[1, 0, 10, 1, 0, 10]), [0, 20, 20])
        # As seen it's the first: it doesn't count as placed on what's before it in another stretch.
        self.assertEqual(xs_of([BET, ACUTE]), [14, 0, 0])
        self.assertEqual(xs_of([97, BET, ACUTE]), [0, 24, 10, 10])
        self.assertEqual(xs_of([97, BOX, ACUTE, 97], boxes=[7, 0, 0]), [0, 10, 17, 17, 27])

    def test_room_0_and_no_mark(self):
        rows = font("font 10 8 2 1", "letter a 10", "letter z 0", "char 97 a", "char 122 z", "pair a z 4")
        self.assertEqual(xs_of("az", fonts=[rows]), [0, 14, 14])

    def test_room_0_when_scaled(self):
        rows = font("font 100 8 2 1", "letter a 100", "letter m 40", "char 97 a", "char 109 m", "mark m 0 0 0",
                    "pair a m 300")
        self.assertEqual(xs_of("am", spans=[2, 0, 1], fonts=[rows]), [0, 1, 1])
        self.assertEqual(xs_of("am", spans=[2, 0, 2], fonts=[rows]), [0, 8, 9])


class WithoutLetterTest(unittest.TestCase):
    def test_behind_the_nearest(self):
        self.assertEqual(xs_of([97, SHY, 98]), [0, 10, 8, 28])
        self.assertEqual(stands_of([97, LI, PI, 98, 10]), [(0, 0), (0, 10), (0, 10), (0, 8), (0, 28), (1, 0)])
        self.assertEqual(xs_of([ALEF, SHY, BET]), [29, 17, 14, 0])

    def test_behind_the_nearest_in_another_level(self):
        # Behind alef, which is at an odd level: its left.
        self.assertEqual(xs_of([97, RI, ALEF, PI, 98]), [0, 10, 22, 10, 22, 42])
        self.assertEqual(xs_of([97, ALEF, LI, PI]), [0, 22, 10, 10, 10])

    def test_hanging_blanks(self):
        self.assertEqual(xs_of("a  "), [0, 10, 10, 10])
        self.assertEqual(stands_of("a  a", wide=10), [(0, 0), (0, 10), (0, 10), (1, 0), (1, 10)])
        self.assertEqual(stands_of("a \nb"), [(0, 0), (0, 10), (0, 10), (1, 0), (1, 20)])
        self.assertEqual(stands_of([ALEF, 32, 32, BET], side=1, wide=14), [(0, 14), (0, 2), (0, 2), (1, 14), (1, 0)])

    def test_not_behind_what_is_in_the_line_before(self):
        self.assertEqual(stands_of([97, 32, LI, 97, PI], wide=10), [(0, 0), (0, 10), (1, 0), (1, 0), (1, 10), (1, 10)])

    def test_none_before(self):
        for setting, x in enumerate((0, 20, 10, 0)):
            self.assertEqual(xs_of([LI, 97, PI], wide=30, setting=setting), [x, x, x + 10, x + 10])
        for setting, x in enumerate((20, 0, 10, 20)):
            self.assertEqual(xs_of([LI, 97, PI], side=1, wide=30, setting=setting), [x + 10, x, x + 10, x + 10])
        self.assertEqual(xs_of([LI, ALEF, PI], side=0, wide=30), [0, 12, 0, 0])

    def test_none_in_the_line(self):
        for setting, x in enumerate((0, 31, 15, 0)):
            self.assertEqual(caret_of("\na", 0, wide=31, setting=setting), [0, x, 0, 11])
            self.assertEqual(caret_of("  ", 1, wide=31, setting=setting), [0, x, 0, 11])
        for setting, x in enumerate((31, 0, 15, 31)):
            self.assertEqual(caret_of("\na", 0, wide=31, setting=setting, side=1), [0, x, 0, 11])
            self.assertEqual(caret_of("  ", 2, wide=31, setting=setting, side=1), [0, x, 0, 11])
        self.assertEqual(caret_of([LI, PI], 2, wide=31, indent=4), [0, 4, 0, 11])

    def test_none_before_in_a_justified_line(self):
        text = [LI, 97, 32, 97, PI, 32, 98]
        for side, x in ((0, 0), (1, 28)):
            found = stands_of(text, side=side, wide=28, setting=3)
            self.assertEqual(found[:6], [(0, x), (0, 0), (0, 10), (0, 18), (0, 28), (0, 28)])


class JustifiedTest(unittest.TestCase):
    def test_even_level(self):
        found = stands_of("a a a b", wide=53, setting=3)
        self.assertEqual(found, [(0, 0), (0, 10), (0, 22), (0, 32), (0, 43), (0, 53), (1, 0), (1, 20)])

    def test_odd_level(self):
        text = [ALEF, 32, ALEF, 32, BET, 32, BET, BET, BET]
        found = stands_of(text, side=1, wide=51, setting=3)
        self.assertEqual(found[:6], [(0, 51), (0, 39), (0, 33), (0, 21), (0, 14), (0, 0)])

    def test_behind_a_widened_blank(self):
        self.assertEqual(stands_of([97, 32, SHY, 97, 32, 98], wide=32, setting=3)[:5],
                         [(0, 0), (0, 10), (0, 22), (0, 22), (0, 32)])
        self.assertEqual(stands_of([ALEF, 32, SHY, BET, 32, BET, BET], side=1, wide=41, setting=3)[:5],
                         [(0, 41), (0, 29), (0, 14), (0, 14), (0, 0)])

    def test_mark_on_a_widened_blank(self):
        text = [97, 32, ACUTE, 97, 32, 97, 32, 98]
        self.assertEqual(stands_of(text, wide=53, setting=3)[:7],
                         [(0, 0), (0, 10), (0, 22), (0, 22), (0, 32), (0, 43), (0, 53)])
        text = [97, 32, ACUTE, SHY, 97, 32, 97, 32, 98]
        self.assertEqual(stands_of(text, wide=53, setting=3)[2:5], [(0, 22), (0, 22), (0, 22)])
        # Not widened: behind the blank all the same.
        self.assertEqual(xs_of([97, 32, ACUTE, 97]), [0, 10, 15, 15, 25])

    def test_mark_on_a_widened_blank_at_an_odd_level(self):
        # The blank is at 14, 5 wide and 10 more.
        text = [ALEF, 32, ACUTE, SHY, BET, 32, BET, BET, BET]
        self.assertEqual(stands_of(text, side=1, wide=41, setting=3)[:6],
                         [(0, 41), (0, 29), (0, 24), (0, 24), (0, 14), (0, 0)])
        self.assertEqual(xs_of(text[:5], side=1, wide=31), [31, 19, 14, 14, 14, 0])

    def test_mark_of_room_0_on_a_widened_blank(self):
        rows = [font("font 10 8 2 1", "letter a 10", "letter sp 5", "letter m 0", "char 97 a", "char 32 sp",
                     "char 769 m", "char 1488 a", "mark m 0 1 1", "pair sp m 2")]
        text = [97, 32, ACUTE, SHY, 97, 32, 97, 97, 97]
        self.assertEqual(stands_of(text, wide=34, setting=3, fonts=rows)[:6],
                         [(0, 0), (0, 10), (0, 22), (0, 22), (0, 24), (0, 34)])
        # At an odd level it's the mark before the blank in the text that is behind it as seen: 7 are added.
        text = [ALEF, ACUTE, 32, ALEF, 32, ALEF, ALEF, ALEF]
        self.assertEqual(stands_of(text, side=1, wide=32, setting=3, fonts=rows)[:5],
                         [(0, 32), (0, 17), (0, 22), (0, 10), (0, 0)])

    def test_blank_that_is_a_mark_itself(self):
        # Placed, or of room 0: before and behind it one stands behind what is before it, though it's widened.
        rows = ["font 10 8 2 1", "letter a 10", "letter sp 5", "letter m 0", "char 97 a", "base a 0 9 9"]
        text = [97, 32, SHY, 97, 32, 97, 97, 97]
        for more in (["char 32 sp", "mark sp 0 0 0"], ["char 32 m", "mark m 1 0 0"]):
            found = stands_of(text, wide=26, setting=3, fonts=[font(*rows, *more)])
            self.assertEqual(found[:5], [(0, 0), (0, 10), (0, 10), (0, 16), (0, 26)])

    def test_last_line_is_not_widened(self):
        self.assertEqual(xs_of("a a", wide=40, setting=3), [0, 10, 15, 25])


class EndTest(unittest.TestCase):
    def test_text_that_does_not_end_with_10(self):
        self.assertEqual(caret_of("a\nab", 4), [1, 28, 11, 22])
        self.assertEqual(caret_of("a ", 2), [0, 10, 0, 11])
        self.assertEqual(caret_of([97, ALEF], 2), [0, 10, 0, 11])
        self.assertEqual(caret_of([97, LI], 2), [0, 10, 0, 11])

    def test_one_line_further(self):
        self.assertEqual(caret_of("a\n", 2), [1, 0, 11, 22])
        self.assertEqual(caret_of("\n", 1), [1, 0, 11, 22])
        self.assertEqual(caret_of("\n\n", 2), [2, 0, 22, 33])
        self.assertEqual(caret_of("a a\n", 4, wide=10), [2, 0, 22, 33])

    def test_settings_and_sides(self):
        for setting, x in enumerate((0, 31, 15, 0)):
            self.assertEqual(caret_of("a\n", 2, wide=31, setting=setting), [1, x, 11, 22])
            self.assertEqual(caret_of("a\n", 2, wide=31, setting=setting, side=2), [1, x, 11, 22])
        for setting, x in enumerate((31, 0, 15, 31)):
            self.assertEqual(caret_of("a\n", 2, wide=31, setting=setting, side=1), [1, x, 11, 22])
            self.assertEqual(caret_of([ALEF, 10], 2, wide=31, setting=setting, side=2), [1, x, 11, 22])

    def test_the_last_paragraphs_side(self):
        self.assertEqual(caret_of([97, 10, ALEF, 10], 4, wide=31, side=2)[1], 31)
        self.assertEqual(caret_of([ALEF, 10, 97, 10], 4, wide=31, side=2)[1], 0)
        self.assertEqual(caret_of([ALEF, 10, 10], 3, wide=31, side=2)[1], 0)

    def test_bands_and_the_indent(self):
        # A paragraph would begin there: it has the indent.
        bands = [11, 22, 4, 3]
        for side, expected in ((0, (10, 27, 18, 10)), (1, (21, 4, 12, 21))):
            for setting, x in enumerate(expected):
                self.assertEqual(caret_of("a\n", 2, wide=30, indent=6, side=side, setting=setting, bands=bands),
                                 [1, x, 11, 22])
        self.assertEqual(caret_of("a\n", 2, wide=30, indent=6, setting=1), [1, 30, 11, 22])
        # There is room for nothing, which is enough: it isn't left empty.
        self.assertEqual(caret_of("a\n", 2, wide=30, bands=[11, 33, 40, 0]), [1, 40, 11, 22])
        self.assertEqual(caret_of("a\n", 2, wide=30, indent=50, setting=1), [1, 50, 11, 22])
        self.assertEqual(caret_of("a\n", 2, wide=30, indent=50, side=1), [1, 0, 11, 22])

    def test_behind_empty_lines(self):
        self.assertEqual(caret_of("b\n", 2, wide=35, bands=[0, 22, 30, 0]), [3, 0, 33, 44])

    def test_empty_text(self):
        for side, expected in ((0, (0, 31, 15, 0)), (1, (31, 0, 15, 31)), (2, (0, 31, 15, 0))):
            for setting, x in enumerate(expected):
                self.assertEqual(caret_of("", 0, wide=31, side=side, setting=setting), [0, x, 0, 11])
        self.assertEqual(caret_of("", 0, spans=[]), [0, 0, 0, 1])
        self.assertEqual(caret_of("", 0, wide=30, indent=6, bands=[0, 11, 4, 3]), [0, 10, 0, 11])
        self.assertEqual(caret_of("", 0, wide=30, indent=6, side=1, bands=[0, 11, 4, 3]), [0, 21, 0, 11])


class LaidTest(unittest.TestCase):
    def test_empty_lines_before(self):
        for way in (0, 1):
            self.assertEqual(caret_of("b", 0, wide=35, way=way, bands=[0, 22, 30, 0]), [2, 0, 22, 33])
            self.assertEqual(caret_of("b", 1, wide=35, way=way, bands=[0, 22, 30, 0]), [2, 20, 22, 33])

    def test_bands_and_indent(self):
        self.assertEqual(stands_of("a a", wide=20, indent=3, bands=[0, 11, 4, 0, 11, 22, 0, 15]),
                         [(0, 7), (0, 17), (2, 0), (2, 10)])
        self.assertEqual(stands_of("a a", wide=22, indent=3, side=1, bands=[0, 11, 4, 0, 11, 22, 0, 15]),
                         [(0, 9), (0, 19), (2, 12), (2, 22)])

    def test_rest_below_0(self):
        self.assertEqual(xs_of("b", wide=15, setting=1), [-5, 15])
        self.assertEqual(xs_of("b", wide=15, setting=2), [-3, 17])
        self.assertEqual(xs_of([LI, 98], wide=15, side=1), [15, -5, 15])

    def test_more_than_8192_lines(self):
        line = 2 ** 24 // 11 + 1
        for way in (0, 1):
            self.assertEqual(caret_of("ab", 1, wide=5, way=way, bands=[0, 2 ** 24, 0, 0]),
                             [line, 8, line * 11, line * 11 + 11])
            self.assertEqual(caret_of("ab\n", 3, wide=5, way=way, bands=[0, 2 ** 24, 0, 0]),
                             [line + 1, 0, line * 11 + 11, line * 11 + 22])

    def test_stands_at_the_letters(self):
        text = [97, 32, 98, ALEF, BET, 49, 32, 97, 97, 32, 98, 98]
        for setting in range(4):
            for side in (0, 1):
                named = dict(wide=77, side=side, setting=setting, indent=5, bands=[0, 11, 3, 4])
                for line, _, letter, place, x, _ in letters_of(text, **named):
                    if letter in (1, 2, 14):
                        self.assertEqual(caret_of(text, place, **named)[:2], [line, x])
        self.assertEqual(letters(*piece(text))[0], 12)


if __name__ == "__main__":
    unittest.main()
