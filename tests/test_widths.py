"""widths: the widest stretch that can't be broken, and the widest paragraph as one line."""

import unittest

from brokenlines.laying import lines, widths
from pieces import ACUTE, ALEF, BET, BOX, FI, FONT, HAT, LI, PI, RI, SHY, codes, font, lines_of, piece, widths_of


class TextsTest(unittest.TestCase):
    def test_empty(self):
        for side in (0, 1, 2):
            self.assertEqual(widths(*piece("", side=side, spans=[])), [0, 0, 0])
            self.assertEqual(widths(*piece("", side=side, spans=[0, 0, 10])), [0, 0, 0])

    def test_without_letters(self):
        for text in ("     ", " ", "\n", "\n\n\n", "  \n \n", [LI], [LI, RI, FI, PI, PI, PI], [PI, 10, LI, 10]):
            for side in (0, 1, 2):
                self.assertEqual(widths(*piece(text, side=side)), [0, 0, 0], text)

    def test_form(self):
        answer = widths(*piece("ab a"))
        self.assertEqual(answer, [0, 28, 43])
        self.assertIsInstance(answer, list)
        self.assertTrue(all(type(number) is int for number in answer))

    def test_one_stretch(self):
        self.assertEqual(widths_of("a"), (10, 10))
        self.assertEqual(widths_of("ab"), (28, 28))
        # The font has no letter for it: that is the first one's.
        self.assertEqual(widths_of("q"), (10, 10))

    def test_several_paragraphs(self):
        self.assertEqual(widths_of("a\nbb a\nab"), (40, 55))
        self.assertEqual(widths_of("a a a a\nbb\na"), (40, 55))
        self.assertEqual(widths_of("\n\nbb\n\n"), (40, 40))
        # The widest stretch and the widest paragraph in whichever.
        for text in ("bbb\na a a a a\na", "a a a a a\nbbb\na", "a\na a a a a\nbbb"):
            self.assertEqual(widths_of(text), (60, 70))

    def test_with_and_without_10_at_the_end(self):
        for text, due in (("ab a", (28, 43)), ("a", (10, 10)), ("a\nbb a", (40, 55)), ("a  ", (10, 10))):
            self.assertEqual(widths_of(text), due)
            self.assertEqual(widths_of(text + "\n"), due)
            self.assertEqual(widths_of(text + "\n\n"), due)
        self.assertEqual(widths_of([97, SHY]), (14, 14))
        self.assertEqual(widths_of([97, SHY, 10]), (14, 14))


class LeastTest(unittest.TestCase):
    def test_first_middle_and_last_stretch(self):
        for text in ("bb a a", "a bb a", "a a bb"):
            self.assertEqual(widths_of(text), (40, 70))

    def test_hanging_ends_left_out(self):
        self.assertEqual(widths_of("a    "), (10, 10))
        self.assertEqual(widths_of("a     a"), (10, 45))
        self.assertEqual(widths_of("   a"), (10, 25))
        self.assertEqual(widths_of("   a   \n"), (10, 25))
        self.assertEqual(widths_of("a \nb  \n"), (20, 20))
        # Blanks that don't hang: no line may end behind them.
        self.assertEqual(widths_of("a \u00a0b"), (45, 45))
        self.assertEqual(widths_of([97, 32, ACUTE, 97]), (25, 25))
        # What has no letter ends a stretch as any other: the blank before it hangs only where a line ends behind it.
        self.assertEqual(widths_of([97, 32, PI]), (10, 15))

    def test_first_place_only(self):
        # Two words together would be wider.
        self.assertEqual(widths_of("a a a a"), (10, 55))

    def test_shown_hyphens(self):
        self.assertEqual(widths_of([97, SHY, 97]), (14, 20))
        self.assertEqual(widths_of([97, SHY, 98]), (20, 28))
        self.assertEqual(widths_of([97, 98, SHY, 97]), (32, 38))
        self.assertEqual(widths_of([97, SHY, SHY, 97]), (14, 20))
        self.assertEqual(widths_of([SHY]), (4, 4))
        self.assertEqual(widths_of([SHY, 97]), (10, 10))
        self.assertEqual(widths_of([SHY, 105]), (4, 4))

    def test_hyphen_before_hanging_blanks(self):
        self.assertEqual(widths_of([97, SHY, 32, 97]), (14, 25))
        self.assertEqual(widths_of([97, SHY, 32, 32, 32, 97]), (14, 35))
        self.assertEqual(widths_of([97, SHY, 32]), (14, 14))
        self.assertEqual(widths_of([97, SHY, 32, 32, 10]), (14, 14))
        # Not where something else stands between.
        self.assertEqual(widths_of([97, SHY, PI]), (14, 10))
        self.assertEqual(widths_of([97, SHY, 160, 97]), (30, 30))
        self.assertEqual(widths_of([97, SHY, 46]), (20, 20))

    def test_hyphen_that_joins_or_pairs(self):
        rows = font("font 10 8 2 1", "letter a 10", "letter h 4", "letter j 11", "letter c 6", "char 97 a", "char 45 h",
                    "char 99 c", "join a h j", "pair c h -3")
        self.assertEqual(widths_of([97, SHY, 99], fonts=[rows]), (11, 16))
        self.assertEqual(widths_of([99, SHY, 99], fonts=[rows]), (7, 12))
        self.assertEqual(widths_of([99, SHY, 32, 10], fonts=[rows]), (7, 7))

    def test_hyphen_of_its_own_span(self):
        self.assertEqual(widths_of([97, SHY, 97], spans=[1, 0, 10, 1, 0, 30, 1, 0, 10]), (22, 20))

    def test_zero_wide_blank(self):
        # It has a letter, here the first one's.
        self.assertEqual(widths_of("a\u200bb"), (20, 40))
        self.assertEqual(widths_of("b\u200bb"), (30, 50))
        none = font("font 10 8 2 1", "letter a 10", "letter z 0", "char 8203 z")
        self.assertEqual(widths_of("aa\u200baaa", fonts=[none]), (30, 50))
        # No line ends between a blank and one.
        self.assertEqual(widths_of("a \u200ba", fonts=[none]), (20, 30))

    def test_wide_characters(self):
        self.assertEqual(widths_of([19968] * 5), (10, 50))
        self.assertEqual(widths_of([97, 97, 19968, 97]), (20, 40))
        self.assertEqual(widths_of([40, 19968, 41, 19968]), (20, 30))
        self.assertEqual(widths_of([19968, 8288, 19968]), (30, 30))

    def test_hyphens_between_letters(self):
        self.assertEqual(widths_of("a-a"), (14, 24))
        self.assertEqual(widths_of("a\u2010a"), (20, 30))
        self.assertEqual(widths_of("a-1"), (22, 22))
        self.assertEqual(widths_of("-a"), (14, 14))
        self.assertEqual(widths_of([ALEF, 45, BET]), (16, 30))

    def test_signs_that_keep_together(self):
        for sign in (33, 44, 46, 58, 59, 63, 93, 125, 8217, 8221, 12289, 12290):
            self.assertEqual(widths_of([19968, sign]), (20, 20), sign)
        for sign in (91, 123, 8216, 8220):
            self.assertEqual(widths_of([sign, 19968]), (20, 20), sign)


class MostTest(unittest.TestCase):
    def test_whole_paragraph(self):
        self.assertEqual(widths_of("a a  a"), (10, 45))
        self.assertEqual(widths_of([97, 32] * 2048), (10, 2048 * 15 - 5))

    def test_hyphens_within_are_not_shown(self):
        self.assertEqual(widths_of([105, SHY, 105, SHY, 105]), (8, 12))
        self.assertEqual(widths_of([105, SHY, 105, SHY, 105, SHY]), (8, 16))
        self.assertEqual(widths_of([105, SHY, 105, SHY, 10, 105]), (8, 12))
        self.assertEqual(widths_of([105, SHY, 105, SHY, 32, 10, 105]), (8, 12))


class AcrossTest(unittest.TestCase):
    def test_pairs(self):
        self.assertEqual(widths_of([19968, 98]), (20, 28))
        self.assertEqual(widths_of([97, SHY, 98]), (20, 28))
        self.assertEqual(widths_of([19968, LI, PI, 98]), (20, 28))
        near = font("font 10 8 2 1", "letter a 10", "letter s 5", "char 32 s", "pair a s -1", "pair s a -2")
        self.assertEqual(widths_of("a a", fonts=[near]), (10, 22))

    def test_joins(self):
        self.assertEqual(widths_of([102, SHY, 105]), (10, 9))
        self.assertEqual(widths_of([102, 105, SHY, 102, SHY, 105]), (13, 18))
        rows = font("font 10 8 2 1", "letter a 10", "letter b 70", "char 19968 a", "join a a b")
        self.assertEqual(widths_of([19968, 19968], fonts=[rows]), (10, 70))
        self.assertEqual(widths_of([19968, 19968, 19968], fonts=[rows]), (10, 80))

    def test_marks(self):
        rows = ("font 10 8 2 1", "letter a 10", "letter m 12", "char 19969 m", "char 769 m", "base a 0 5 5", "mark m 0 1 1")
        self.assertEqual(widths_of([19968, 19969], fonts=[font(*rows)]), (12, 10))
        self.assertEqual(widths_of([19968, 769], fonts=[font(*rows)]), (10, 10))
        self.assertEqual(widths_of([19968, 19969, 19969], fonts=[font(*rows)]), (12, 10))
        # Two marks that begin a stretch: the second isn't placed over the first.
        self.assertEqual(widths_of([19968, 19969, 769], fonts=[font(*rows)]), (24, 10))
        # Here the first one bears no marks of this kind.
        self.assertEqual(widths_of([98, HAT]), (23, 23))

    def test_stretch_wider_than_its_paragraph(self):
        rows = font("font 10 8 2 1", "letter a 10", "letter b 10", "char 19969 b", "pair a b -15", "pair b a -15")
        self.assertEqual(widths_of([19968, 19969], fonts=[rows]), (10, 5))
        self.assertEqual(widths_of([19968, 19969, 19968], fonts=[rows]), (10, 0))
        self.assertEqual(widths_of([19968, 19969, 10, 97, 97], fonts=[rows]), (20, 20))

    def test_below_0(self):
        rows = font("font 10 8 2 1", "letter a 10", "letter b 10", "char 98 b", "char 19969 b", "pair a b -30")
        self.assertEqual(widths_of("ab", fonts=[rows]), (0, 0))
        self.assertEqual(lines_of("ab", fonts=[rows])[0][3], -10)
        self.assertEqual(widths_of("ab ab", fonts=[rows]), (0, 0))
        self.assertEqual(widths_of("ab a", fonts=[rows]), (10, 10))
        self.assertEqual(widths_of("ab\nab\n", fonts=[rows]), (0, 0))
        self.assertEqual(widths_of([19968, 19969], fonts=[rows]), (10, 0))
        self.assertEqual(widths_of([97, 98, 10, 97], fonts=[rows]), (10, 10))


class LettersTest(unittest.TestCase):
    def test_sides(self):
        # At an odd level a bracket has the other one's letter.
        for side, due in ((0, 15), (1, 19), (2, 19)):
            self.assertEqual(widths_of([40, ALEF], side=side), (due, due))
        for side, due in ((0, 13), (1, 17), (2, 13)):
            self.assertEqual(widths_of([97, 40], side=side), (due, due))
        # With side 2 each paragraph has its own.
        self.assertEqual(widths_of([40, ALEF, 10, 97, 40], side=2), (19, 19))
        self.assertEqual(widths_of([97, 40, 10, 40, ALEF], side=2), (19, 19))
        self.assertEqual(widths_of([40, ALEF, 10, 97, 40], side=0), (15, 15))

    def test_pairs_at_odd_levels(self):
        for side in (0, 1, 2):
            self.assertEqual(widths_of([ALEF, BET], side=side), (29, 29))
            self.assertEqual(widths_of([BET, ALEF], side=side), (26, 26))
            self.assertEqual(widths_of([RI, ALEF, BET, PI], side=side), (29, 29))
        self.assertEqual(widths_of([RI, 97, 98, PI]), (28, 28))

    def test_several_levels_in_one_stretch(self):
        rows = font("font 10 8 2 1", "letter a 10", "letter b 20", "letter d 8", "char 98 b", "char 1488 b", "char 49 d",
                    "pair a b -5", "pair b d -3", "join b b a")
        self.assertEqual(widths_of("ab", fonts=[rows]), (25, 25))
        self.assertEqual(widths_of([97, ALEF], fonts=[rows]), (30, 30))
        self.assertEqual(widths_of([98, ALEF], fonts=[rows]), (40, 40))
        self.assertEqual(widths_of([ALEF, 49], fonts=[rows]), (28, 28))
        self.assertEqual(widths_of("b1", fonts=[rows]), (25, 25))
        self.assertEqual(widths_of([97, ALEF, 49, 98, 98], fonts=[rows]), (48, 48))

    def test_levels_are_the_paragraphs(self):
        # By itself the last stretch would have level 0, for what turns its bracket stands in the first.
        self.assertEqual(widths_of([ALEF, 32, 40, ALEF], side=2), (19, 36))
        self.assertEqual(widths_of([ALEF, 32, 40, 97], side=2), (17, 34))

    def test_isolates_leave_letters_side_by_side(self):
        # They have no letters, but what is at another level is another stretch.
        self.assertEqual(widths_of([97, LI, 98, PI]), (30, 30))
        self.assertEqual(widths_of([102, PI, 105]), (9, 9))

    def test_spans(self):
        self.assertEqual(widths_of("fi"), (9, 9))
        self.assertEqual(widths_of("fi", spans=[1, 0, 10, 1, 0, 10]), (10, 10))
        self.assertEqual(widths_of("ab", spans=[1, 0, 10, 1, 0, 10]), (30, 30))
        self.assertEqual(widths_of("ab", spans=[1, 0, 10, 1, 0, 25]), (60, 60))
        self.assertEqual(widths_of("ab", spans=[0, 0, 99, 1, 0, 10, 0, 0, 99, 1, 0, 10, 0, 0, 99]), (30, 30))
        self.assertEqual(widths_of("a a", spans=[1, 0, 20, 1, 0, 30, 1, 0, 40]), (40, 75))
        self.assertEqual(widths_of([97, ACUTE], spans=[1, 0, 10, 1, 0, 10]), (10, 10))
        self.assertEqual(widths_of([97, HAT], spans=[1, 0, 10, 1, 0, 10]), (13, 13))

    def test_fonts(self):
        other = font("font 100 8 2 1", "letter a 70", "letter b 90", "char 98 b")
        self.assertEqual(widths_of("ab", spans=[2, 1, 10], fonts=[FONT, other]), (16, 16))
        self.assertEqual(widths_of("abab", spans=[1, 1, 10, 3, 0, 10], fonts=[FONT, other]), (55, 55))
        self.assertEqual(widths_of("ab ab", spans=[2, 1, 10, 1, 0, 10, 2, 1, 100], fonts=[FONT, other]), (160, 181))
        self.assertEqual(widths_of("aa", spans=[1, 3, 10, 1, 2, 10], fonts=[FONT, FONT, other, FONT]), (17, 17))

    def test_each_letter_is_scaled_by_itself(self):
        rows = font("font 3 8 2 1", "letter a 1", "letter b 2", "char 98 b", "pair b b -1")
        self.assertEqual(widths_of("aaa", spans=[3, 0, 10], fonts=[rows]), (9, 9))
        self.assertEqual(widths_of("b", spans=[1, 0, 10], fonts=[rows]), (7, 7))
        self.assertEqual(widths_of("bb", spans=[2, 0, 10], fonts=[rows]), (11, 11))
        half = font("font 2 8 2 1", "letter a 1", "letter b 1", "char 98 b", "pair a b -1")
        self.assertEqual(widths_of("aa", spans=[2, 0, 1], fonts=[half]), (2, 2))
        self.assertEqual(widths_of("ab", spans=[2, 0, 1], fonts=[half]), (2, 2))

    def test_boxes(self):
        self.assertEqual(widths_of([BOX], boxes=[7, 90, 90]), (7, 7))
        self.assertEqual(widths_of([97, BOX, 98], boxes=[7, 0, 0]), (37, 37))
        self.assertEqual(widths_of([97, BOX, 98], boxes=[0, 0, 0]), (30, 30))
        self.assertEqual(widths_of([102, BOX, 105], boxes=[0, 0, 0]), (10, 10))
        self.assertEqual(widths_of([BOX, 32, BOX, BOX], boxes=[7, 0, 0, 11, 0, 0, 2, 0, 0]), (13, 25))
        self.assertEqual(widths_of([ALEF, BOX, BET], boxes=[7, 0, 0], side=1), (33, 33))
        # A box's own letter in a font counts for nothing, nor does its span's size.
        rows = font("font 10 8 2 1", "letter a 10", "char 65532 a", "pair a a -5")
        self.assertEqual(widths_of([BOX, 97], boxes=[7, 0, 0], fonts=[rows], spans=[2, 0, 20]), (27, 27))
        largest = 2 ** 20
        self.assertEqual(widths_of([BOX] * 4096, boxes=[largest, 0, 0] * 4096), (largest * 4096, largest * 4096))


class NothingElseTest(unittest.TestCase):
    TEXT = codes("ab fi a a") + [ALEF, BET, 32, 49, ACUTE, 10, 97, 32, BOX, SHY, 98, 19968, 19968, 10]

    def test_numbers_that_change_nothing(self):
        for side in (0, 1, 2):
            due = widths_of(self.TEXT, side=side, boxes=[9, 1, 1])
            for named in (
                dict(wide=0), dict(wide=30), dict(wide=2 ** 24), dict(indent=1), dict(indent=2 ** 20), dict(setting=1),
                dict(setting=2), dict(setting=3), dict(way=1), dict(bands=[0, 22, 5, 4]), dict(bands=[0, 2 ** 24, 0, 0]),
                dict(bands=[0, 2 ** 24, 2 ** 24, 2 ** 24] * 64, wide=3, way=1, setting=3, indent=40),
            ):
                self.assertEqual(widths_of(self.TEXT, side=side, boxes=[9, 1, 1], **named), due)

    def test_no_refusal_of_many_lines(self):
        self.assertEqual(lines(*piece("a", wide=5, bands=[0, 2 ** 24, 0, 0])), [-6])
        self.assertEqual(widths_of("a", wide=5, bands=[0, 2 ** 24, 0, 0]), (10, 10))
        self.assertEqual(widths_of("a\n" * 2048, wide=5, bands=[0, 2 ** 24, 0, 0]), (10, 10))

    def test_as_lines_tells(self):
        # In a column without room each line is one stretch, if none is of no width; in a wide one a paragraph.
        for text in (self.TEXT, codes("a ab abb\nfi fi-fi a a\na")):
            boxes = [9, 1, 1] * text.count(BOX)
            for side in (0, 1, 2):
                narrow = lines_of(text, side=side, boxes=boxes, wide=0, bands=[])
                broad = lines_of(text, side=side, boxes=boxes, wide=2 ** 24, bands=[])
                due = (max(row[3] for row in narrow), max(row[3] for row in broad))
                self.assertEqual(widths_of(text, side=side, boxes=boxes, indent=3), due)


if __name__ == "__main__":
    unittest.main()
