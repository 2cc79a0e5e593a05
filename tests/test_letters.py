"""letters: each letter of each line, as seen."""

import unittest

from brokenlines.laying import letters
from pieces import ACUTE, ALEF, BET, BOX, FI, FONT, HAT, LI, PI, RI, SHY, font, letters_of, piece


def seen(text, **named):
    """Letter's number, character's place and x of each letter, in one line."""
    found = letters_of(text, **named)
    assert all(row[0] == 0 for row in found), found
    return [row[2:5] for row in found]


class PlainTest(unittest.TestCase):
    def test_six_numbers(self):
        self.assertEqual(letters(*piece("ab")), [2, 0, 0, 1, 0, 0, 8, 0, 0, 2, 1, 8, 8])

    def test_empty(self):
        self.assertEqual(letters(*piece("")), [0])
        self.assertEqual(letters(*piece("", spans=[])), [0])
        self.assertEqual(letters(*piece("\n \n")), [0])

    def test_line_by_line(self):
        self.assertEqual(letters_of("a b a", wide=35), [
            (0, 0, 1, 0, 0, 8), (0, 0, 3, 1, 10, 8), (0, 0, 2, 2, 15, 8), (1, 0, 1, 4, 0, 19)])
        for way in (0, 1):
            self.assertEqual(letters_of("a\nb", way=way), [(0, 0, 1, 0, 0, 8), (1, 0, 2, 2, 0, 19)])

    def test_character_that_the_font_does_not_have(self):
        self.assertEqual(seen("xa\x00"), [(0, 0, 0), (1, 1, 10), (0, 2, 20)])

    def test_hanging_blanks_have_none(self):
        self.assertEqual(seen("  a  "), [(3, 0, 0), (3, 1, 5), (1, 2, 10)])
        self.assertEqual(seen("a  \n"), [(1, 0, 0)])
        self.assertEqual(letters_of("a  a", wide=10), [(0, 0, 1, 0, 0, 8), (1, 0, 1, 3, 0, 19)])

    def test_without_letters(self):
        rows = ("font 10 8 2 1", "letter a 10", "char 10 a", "char 8294 a", "char 8295 a", "char 8296 a", "char 8297 a",
                "char 173 a")
        self.assertEqual(letters(*piece([LI, RI, FI, PI, PI, PI, SHY, PI, 10], fonts=[font(*rows)])), [0])
        self.assertEqual(seen([97, LI, PI, 98, 10]), [(1, 0, 0), (2, 3, 8)])

    def test_soft_hyphen(self):
        self.assertEqual(seen([97, SHY, 97]), [(1, 0, 0), (1, 2, 10)])
        self.assertEqual(letters_of([97, SHY, 97], wide=14), [
            (0, 0, 1, 0, 0, 8), (0, 0, 4, 1, 10, 8), (1, 0, 1, 2, 0, 19)])
        self.assertEqual(seen([97, SHY, 32, 10]), [(1, 0, 0), (4, 1, 10)])
        self.assertEqual(seen([97, SHY, SHY]), [(1, 0, 0), (4, 2, 10)])
        self.assertEqual(seen([97, SHY, 32, 97]), [(1, 0, 0), (3, 2, 10), (1, 3, 15)])
        self.assertEqual(seen([ALEF, SHY], wide=16), [(10, 0, 0), (4, 1, 12)])
        self.assertEqual(seen([ALEF, SHY], side=1, wide=16), [(4, 1, 0), (10, 0, 4)])

    def test_soft_hyphen_has_its_spans_font(self):
        other = font("font 10 8 2 1", "letter none 1", "letter x 2", "char 45 x")
        self.assertEqual(letters_of([97, SHY], spans=[1, 0, 10, 1, 1, 30], fonts=[FONT, other]), [
            (0, 0, 1, 0, 0, 24), (0, 1, 1, 1, 10, 24)])

    def test_joins(self):
        self.assertEqual(seen("afia"), [(1, 0, 0), (7, 1, 10), (1, 3, 19)])
        self.assertEqual(seen([102, SHY, LI, PI, 105, 97]), [(7, 0, 0), (1, 5, 9)])
        rows = ("font 10 8 2 1", "letter a 10", "letter b 7", "letter c 3", "char 97 a", "join a a b", "join b a c")
        self.assertEqual(seen("aaaaa", fonts=[font(*rows)]), [(2, 0, 0), (1, 3, 3)])

    def test_joined_is_not_joined_with_what_is_before(self):
        rows = ("font 10 8 2 1", "letter a 10", "letter b 7", "letter c 3", "letter d 1", "char 97 a", "char 98 b",
                "char 99 c", "join b c d", "join a d a")
        self.assertEqual(seen("abc", fonts=[font(*rows)]), [(0, 0, 0), (3, 1, 10)])

    def test_pairs(self):
        self.assertEqual(seen("aba"), [(1, 0, 0), (2, 1, 8), (1, 2, 28)])
        self.assertEqual(seen([97, ACUTE, 98]), [(1, 0, 0), (8, 1, 4), (2, 2, 8)])
        self.assertEqual([row[4] for row in letters_of("aba", spans=[3, 0, 5])], [0, 4, 14])


class SpanTest(unittest.TestCase):
    def test_spans_and_fonts(self):
        other = font("font 20 3 1 0", "letter none 8", "letter a 6", "char 97 a")
        self.assertEqual(letters_of("abab", spans=[1, 0, 10, 0, 1, 5, 2, 1, 10, 1, 0, 20], fonts=[FONT, other]), [
            (0, 0, 1, 0, 0, 16), (0, 2, 0, 1, 10, 16), (0, 2, 1, 2, 14, 16), (0, 3, 2, 3, 17, 16)])

    def test_scaled(self):
        rows = font("font 4 1 1 1", "letter a 3", "letter b 5", "char 97 a", "char 98 b", "pair a b -1")
        # 3/4 of 3 is 2.25, 5/4 of it 3.75, -3/4 is cut to -1.
        self.assertEqual(seen("aba", spans=[3, 0, 3], fonts=[rows]), [(0, 0, 0), (1, 1, 1), (0, 2, 5)])
        # -1/2 and a half more are 0, not -1.
        self.assertEqual(seen("ab", spans=[2, 0, 2], fonts=[rows]), [(0, 0, 0), (1, 1, 2)])

    def test_boxes(self):
        self.assertEqual(letters_of([BOX, 97, BOX, 98], boxes=[7, 1, 1, 9, 20, 0]), [
            (0, 0, -1, 0, 0, 20), (0, 0, 1, 1, 7, 20), (0, 0, -2, 2, 17, 20), (0, 0, 2, 3, 26, 20)])
        self.assertEqual(seen([BOX, BOX, ALEF], side=1, wide=23, boxes=[7, 0, 0, 4, 0, 0]),
                         [(10, 2, 0), (-2, 1, 12), (-1, 0, 16)])
        self.assertEqual(seen([97, BOX, ACUTE], boxes=[7, 0, 0]), [(1, 0, 0), (-1, 1, 10), (8, 2, 17)])

    def test_box_has_its_spans_number(self):
        self.assertEqual([row[1:4] for row in letters_of([97, BOX, 97], spans=[1, 0, 10, 2, 0, 10], boxes=[1, 1, 1])],
                         [(0, 1, 0), (1, -1, 1), (1, 1, 2)])


class LevelTest(unittest.TestCase):
    def places(self, text, **named):
        return [row[3] for row in letters_of(text, **named)]

    def test_odd_level(self):
        self.assertEqual(seen([ALEF, BET]), [(11, 1, 0), (10, 0, 17)])
        self.assertEqual(seen([BET, ALEF]), [(10, 1, 0), (11, 0, 12)])

    def test_levels_that_differ(self):
        text = [97, 32, ALEF, BET, 32, 49]
        self.assertEqual(seen(text), [(1, 0, 0), (3, 1, 10), (14, 5, 15), (3, 4, 23), (11, 3, 28), (10, 2, 45)])
        # Side 1: the digit is at 2, a as well; all else at 1.
        self.assertEqual(seen(text, side=1, wide=57), [
            (14, 5, 0), (3, 4, 8), (11, 3, 13), (10, 2, 30), (3, 1, 42), (1, 0, 47)])

    def test_digits(self):
        self.assertEqual(self.places([49, 49, ALEF]), [0, 1, 2])
        self.assertEqual(self.places([ALEF, 49, 49]), [1, 2, 0])
        self.assertEqual(self.places([97, 49, ALEF]), [0, 1, 2])
        self.assertEqual(self.places([1600, 49, 46, 49]), [3, 2, 1, 0])
        self.assertEqual(self.places([ALEF, 1632, 1633, 97]), [1, 2, 0, 3])

    def test_neutrals(self):
        self.assertEqual(self.places([ALEF, 33, BET, 33, 97]), [2, 1, 0, 3, 4])
        self.assertEqual(self.places([ALEF, 33, 97, 33, 98], side=1), [2, 3, 4, 1, 0])
        self.assertEqual(self.places([97, 33], side=1), [1, 0])
        self.assertEqual(self.places([33, 97, ALEF, 33], side=2), [0, 1, 2, 3])
        self.assertEqual(self.places([33, ALEF, 97, 33], side=2), [3, 2, 1, 0])
        self.assertEqual(self.places([ALEF, 33, 49], side=0), [2, 1, 0])

    def test_marks_go_with_what_is_before(self):
        self.assertEqual(self.places([ALEF, 33, HAT, BET]), [3, 2, 1, 0])
        self.assertEqual(self.places([97, HAT, ALEF, HAT]), [0, 1, 3, 2])
        self.assertEqual(self.places([HAT, 97], side=1), [1, 0])
        self.assertEqual(self.places([ALEF, LI, PI, HAT, 97]), [0, 3, 4])

    def test_isolates(self):
        self.assertEqual(self.places([97, RI, 98, 49, PI, 98]), [0, 2, 3, 5])
        self.assertEqual(self.places([97, RI, 98, 32, ALEF, PI, 98]), [0, 4, 3, 2, 6])
        self.assertEqual(self.places([97, LI, ALEF, 32, 98, PI, BET, ALEF]), [0, 2, 3, 4, 7, 6])
        self.assertEqual(self.places([97, FI, ALEF, 32, 98, PI]), [0, 4, 3, 2])
        self.assertEqual(self.places([97, FI, 98, 32, ALEF, PI]), [0, 2, 3, 4])
        self.assertEqual(self.places([97, FI, LI, 98, PI, ALEF, 33, 97, PI]), [0, 7, 6, 5, 3])
        self.assertEqual(self.places([PI, ALEF, 33, BET, PI, 98]), [3, 2, 1, 5])
        self.assertEqual(self.places([ALEF, RI, 98, 10, ALEF, 33, 98, 10]), [0, 2, 4, 5, 6])

    def test_side_is_looked_for_outside_of_isolates(self):
        self.assertEqual(self.places([RI, ALEF, PI, 97, 33], side=2), [1, 3, 4])
        self.assertEqual(self.places([LI, 97, PI, ALEF, 33], side=2), [4, 3, 1])
        self.assertEqual(self.places([LI, 97, ALEF, 33], side=2), [1, 2, 3])
        self.assertEqual(self.places([PI, 33, ALEF, 33, 98], side=2), [4, 3, 2, 1])

    def test_levels_up_to_60(self):
        # 60 is reached with 30 LI, or with 60 of RI and LI by turns; what comes above pushes nothing.
        inner = [ALEF, BET]
        self.assertEqual(self.places([LI] * 30 + inner + [PI] * 30), [31, 30])
        self.assertEqual(self.places([LI] * 29 + [RI] + inner + [PI] * 30), [31, 30])
        self.assertEqual(self.places([RI, LI] * 30 + [97, 33, 98]), [60, 61, 62])
        self.assertEqual(self.places([RI, LI] * 30 + [RI, 97, 33, 98]), [61, 62, 63])
        self.assertEqual(self.places([RI, LI] * 29 + [RI, 97, 33, ALEF]), [61, 60, 59])
        self.assertEqual(self.places([RI, LI] * 29 + [RI, RI, LI, 97, 33, ALEF]), [61, 62, 63])

    def test_brackets(self):
        self.assertEqual(seen([40, ALEF, 41]), [(12, 0, 0), (10, 1, 3), (13, 2, 15)])
        self.assertEqual(seen([40, ALEF, 41], side=1, wide=22), [(12, 2, 0), (10, 1, 3), (13, 0, 15)])
        rows = ["font 10 8 2 1", "letter none 1"]
        for name, code in zip("abcdefgh", (40, 41, 60, 62, 91, 93, 123, 125)):
            rows += ["letter %s 1" % name, "char %d %s" % (code, name)]
        text = [40, 41, 60, 62, 91, 93, 123, 125]
        self.assertEqual([row[2] for row in letters_of(text, fonts=[font(*rows)])], [1, 2, 3, 4, 5, 6, 7, 8])
        self.assertEqual([row[2:4] for row in letters_of(text, side=1, fonts=[font(*rows)])],
                         list(zip((7, 8, 5, 6, 3, 4, 1, 2), (7, 6, 5, 4, 3, 2, 1, 0))))

    def test_lines_are_turned_one_by_one(self):
        text = [ALEF, BET, 32, ALEF, ALEF, 32, 97]
        self.assertEqual([row[0:4:3] for row in letters_of(text, wide=29)],
                         [(0, 1), (0, 0), (1, 4), (1, 3), (2, 6)])


class MarkTest(unittest.TestCase):
    def test_placed(self):
        self.assertEqual(letters_of([97, ACUTE, ACUTE, 97]), [
            (0, 0, 1, 0, 0, 8), (0, 0, 8, 1, 4, 7), (0, 0, 8, 2, 4, 7), (0, 0, 1, 3, 10, 8)])
        self.assertEqual(letters_of([BET, ALEF, ACUTE, BET]), [
            (0, 0, 11, 3, 0, 8), (0, 0, 10, 1, 17, 8), (0, 0, 8, 2, 22, 6), (0, 0, 11, 0, 29, 8)])

    def test_both_spots_are_scaled(self):
        # 5/10 of 3 is 1.5, so 2; 1/10 of 3 is 0; 8/10 of 3 is 2.4, 7/10 of it 2.1.
        self.assertEqual(letters_of([97, ACUTE], spans=[2, 0, 3]), [(0, 0, 1, 0, 0, 2), (0, 0, 8, 1, 2, 2)])

    def test_not_placed(self):
        # Hat has no base of its kind: it's as any other, and what is behind it isn't placed over it.
        self.assertEqual(seen([97, HAT, 97]), [(1, 0, 0), (9, 1, 10), (1, 2, 13)])
        self.assertEqual(seen([HAT, 97]), [(9, 0, 0), (1, 1, 3)])
        rows = ("font 10 8 2 1", "letter a 10", "letter m 2", "letter n 3", "char 97 a", "char 109 m", "char 110 n",
                "base a 0 7 7", "base m 0 1 1", "mark m 1 0 0", "mark n 0 2 3")
        self.assertEqual(letters_of("amn", fonts=[font(*rows)]), [
            (0, 0, 0, 0, 0, 8), (0, 0, 1, 1, 10, 8), (0, 0, 2, 2, 12, 8)])
        self.assertEqual(letters_of("anm", fonts=[font(*rows)]), [
            (0, 0, 0, 0, 0, 8), (0, 0, 2, 1, 5, 4), (0, 0, 1, 2, 10, 8)])

    def test_spans_and_levels_between(self):
        self.assertEqual(seen([97, ACUTE], spans=[1, 0, 10, 1, 0, 10]), [(1, 0, 0), (8, 1, 10)])
        self.assertEqual(seen([97, RI, ACUTE, PI]), [(1, 0, 0), (8, 2, 10)])
        self.assertEqual(seen([97, LI, PI, ACUTE]), [(1, 0, 0), (8, 3, 4)])

    def test_room_0_at_the_beginning_of_a_stretch(self):
        self.assertEqual(seen([ACUTE, 98]), [(8, 0, 0), (2, 1, 0)])
        self.assertEqual(seen([98, ACUTE], spans=[1, 0, 10, 1, 0, 10]), [(2, 0, 0), (8, 1, 20)])
        # As seen it is the first here.
        self.assertEqual(seen([BET, ACUTE]), [(8, 1, 0), (11, 0, 0)])
        self.assertEqual(seen([97, BET, ACUTE]), [(1, 0, 0), (8, 2, 10), (11, 1, 10)])

    def test_room_0_within_a_stretch(self):
        # Not placed, it's as any other, and takes no room since it has none.
        self.assertEqual(letters_of([97, 98, ACUTE, 97]), [
            (0, 0, 1, 0, 0, 8), (0, 0, 2, 1, 8, 8), (0, 0, 8, 2, 28, 8), (0, 0, 1, 3, 28, 8)])
        self.assertEqual(seen([BET, ACUTE, ALEF]), [(10, 2, 0), (8, 1, 12), (11, 0, 12)])
        self.assertEqual(seen([ACUTE, BET], side=1, wide=14), [(11, 1, 0), (8, 0, 14)])
        self.assertEqual(seen([98, ACUTE, ACUTE]), [(2, 0, 0), (8, 1, 20), (8, 2, 20)])
        rows = ("font 10 8 2 1", "letter a 10", "letter m 0", "letter n 0", "char 97 a", "char 109 m", "char 110 n",
                "base a 0 7 7", "mark m 0 2 3", "mark n 1 0 0", "pair a n 4", "pair n a 5")
        self.assertEqual(letters_of("amna", fonts=[font(*rows)]), [
            (0, 0, 0, 0, 0, 8), (0, 0, 1, 1, 5, 4), (0, 0, 2, 2, 14, 8), (0, 0, 0, 3, 19, 8)])

    def test_room_0_only_when_scaled(self):
        rows = font("font 100 8 2 1", "letter a 100", "letter m 40", "char 97 a", "char 109 m", "mark m 0 0 0")
        self.assertEqual(seen("ama", spans=[3, 0, 1], fonts=[rows]), [(0, 0, 0), (1, 1, 1), (0, 2, 1)])
        self.assertEqual(seen("ama", spans=[3, 0, 2], fonts=[rows]), [(0, 0, 0), (1, 1, 2), (0, 2, 3)])

    def test_room_0_and_no_mark(self):
        self.assertEqual(seen([97, 0x4e01, 97]), [(1, 0, 0), (15, 1, 10), (1, 2, 10)])


class JustifiedTest(unittest.TestCase):
    def first(self, text, **named):
        return [row[3:5] for row in letters_of(text, setting=3, **named) if row[0] == 0]

    def test_even_level(self):
        self.assertEqual(self.first("a a a b", wide=53), [(0, 0), (1, 10), (2, 22), (3, 32), (4, 43)])
        self.assertEqual(self.first("a a a b", wide=52), [(0, 0), (1, 10), (2, 21), (3, 31), (4, 42)])

    def test_last_line_is_not(self):
        self.assertEqual(self.first("a a\nb b", wide=53), [(0, 0), (1, 10), (2, 15)])

    def test_odd_level(self):
        # As seen: bet, blank, alef, blank, alef; the first blank as seen takes one more.
        text = [ALEF, 32, ALEF, 32, BET, 32, BET, BET, BET]
        self.assertEqual(self.first(text, side=1, wide=51), [(4, 0), (3, 14), (2, 21), (1, 33), (0, 39)])

    def test_beginning(self):
        self.assertEqual(self.first("a a a b", wide=64, indent=3, bands=[0, 11, 4, 5])[0::4], [(0, 7), (4, 49)])
        self.assertEqual(self.first("a a a b", wide=64, indent=3, side=1, bands=[0, 11, 4, 5])[0::4], [(0, 4), (4, 46)])

    def test_mark_on_a_widened_blank(self):
        # The mark on the blank stands behind what has been added to it: 7 more, then 6.
        text = [97, 32, ACUTE, 97, 32, 97, 32, 98]
        self.assertEqual(self.first(text, wide=53), [(0, 0), (1, 10), (2, 10 + 2 - 1 + 7), (3, 22), (4, 32), (5, 43)])

    def test_mark_on_a_widened_blank_at_an_odd_level(self):
        text = [ALEF, 32, ACUTE, BET, 32, BET, BET, BET]
        self.assertEqual(self.first(text, side=1, wide=41), [(3, 0), (1, 14), (2, 14 + 1 + 10), (0, 29)])

    def test_mark_of_room_0_behind_a_widened_blank(self):
        rows = ["font 10 8 2 1", "letter a 10", "letter sp 5", "letter m 0", "char 97 a", "char 32 sp", "char 769 m",
                "mark m 0 1 1"]
        text = [97, 32, ACUTE, 97, 32, 97, 97, 97]
        self.assertEqual(self.first(text, wide=32, fonts=[font(*rows)]), [(0, 0), (1, 10), (2, 22), (3, 22)])

    def test_hyphen_and_box(self):
        text = [97, 32, BOX, SHY, 97, 97]
        self.assertEqual(self.first(text, wide=30, boxes=[6, 0, 0]), [(0, 0), (1, 10), (2, 20), (3, 26)])


class LaidTest(unittest.TestCase):
    def test_settings_and_sides(self):
        for side, expected in ((0, (0, 25, 12, 0)), (1, (25, 0, 12, 25))):
            for setting in range(4):
                self.assertEqual(letters_of("a", wide=35, side=side, setting=setting),
                                 [(0, 0, 1, 0, expected[setting], 8)])
        for setting, x in enumerate((23, 0, 11, 23)):
            self.assertEqual(letters_of([ALEF], wide=35, side=2, setting=setting), [(0, 0, 10, 0, x, 8)])

    def test_rest_below_0(self):
        self.assertEqual(letters_of("b", wide=15, setting=1), [(0, 0, 2, 0, -5, 8)])
        self.assertEqual(letters_of("b", wide=15, setting=2), [(0, 0, 2, 0, -3, 8)])

    def test_indent_and_bands(self):
        self.assertEqual(letters_of("a a", wide=20, indent=3, bands=[0, 11, 4, 0, 11, 22, 0, 15]),
                         [(0, 0, 1, 0, 7, 8), (2, 0, 1, 2, 0, 30)])
        self.assertEqual(letters_of("a a", wide=20, indent=3, side=1, bands=[0, 11, 4, 0, 11, 22, 0, 15]),
                         [(0, 0, 1, 0, 7, 8), (2, 0, 1, 2, 10, 30)])
        self.assertEqual(letters_of("a a", wide=22, indent=3, side=1, bands=[0, 11, 4, 0, 11, 22, 0, 15]),
                         [(0, 0, 1, 0, 9, 8), (2, 0, 1, 2, 12, 30)])


if __name__ == "__main__":
    unittest.main()
