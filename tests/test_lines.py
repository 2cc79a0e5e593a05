"""lines: broken both ways, beside bands, and laid."""

import unittest

from brokenlines.laying import lines
from pieces import ACUTE, ALEF, BET, BOX, FI, FONT, HAT, LI, PI, RI, SHY, cuts_of, font, lines_of, piece


class EndsTest(unittest.TestCase):
    """In a column of no width each line ends at the first place where it may."""

    def pieces(self, text):
        if isinstance(text, str):
            text = [ord(sign) for sign in text]
        cuts = cuts_of(text, wide=0)
        self.assertEqual(cuts[0][0], 0)
        self.assertEqual(cuts[-1][1], len(text))
        return [stop for start, stop in cuts]

    def test_blanks(self):
        self.assertEqual(self.pieces("ab  ab "), [4, 7])
        self.assertEqual(self.pieces(" ab"), [1, 3])
        self.assertEqual(self.pieces("ab"), [2])

    def test_must(self):
        self.assertEqual(self.pieces("ab\nab\n"), [3, 6])
        self.assertEqual(self.pieces("\n\n a\n"), [1, 2, 3, 5])
        self.assertEqual(self.pieces("a \n"), [3])

    def test_zero_wide_blank(self):
        self.assertEqual(self.pieces("a\u200bb"), [2, 3])
        self.assertEqual(self.pieces("a \u200bb"), [3, 4])
        self.assertEqual(self.pieces("a\u200b b"), [3, 4])
        self.assertEqual(self.pieces("a\u200b\u00a0b"), [2, 4])
        self.assertEqual(self.pieces("a\u200b\u0301"), [2, 3])

    def test_glue(self):
        self.assertEqual(self.pieces("a \u00a0b"), [4])
        self.assertEqual(self.pieces("a\u00a0 b"), [3, 4])
        self.assertEqual(self.pieces("\u4e00\u2060\u4e00"), [3])
        self.assertEqual(self.pieces("a \u2060b"), [4])

    def test_marks(self):
        self.assertEqual(self.pieces("a \u0301b"), [4])
        self.assertEqual(self.pieces("\u4e00\u0301\u4e00"), [2, 3])
        self.assertEqual(self.pieces([97, SHY, 1425]), [3])
        self.assertEqual(self.pieces([97, SHY, 1611]), [3])
        self.assertEqual(self.pieces([97, SHY, 8400]), [3])
        self.assertEqual(self.pieces([97, SHY, 1470]), [2, 3])

    def test_closing_and_opening(self):
        for sign in (33, 41, 44, 46, 58, 59, 63, 93, 125, 8217, 8221, 12289, 12290):
            self.assertEqual(self.pieces([0x4e00, sign]), [2], sign)
            self.assertEqual(self.pieces([97, 32, sign]), [2, 3], sign)
            self.assertEqual(self.pieces([97, SHY, sign]), [3], sign)
        for sign in (40, 91, 123, 8216, 8220):
            self.assertEqual(self.pieces([sign, 0x4e00]), [2], sign)
        self.assertEqual(self.pieces([47, 0x4e00]), [1, 2])

    def test_hyphens(self):
        self.assertEqual(self.pieces("a-b"), [2, 3])
        self.assertEqual(self.pieces("a\u2010b"), [2, 3])
        self.assertEqual(self.pieces([ALEF, 45, 1600]), [2, 3])
        self.assertEqual(self.pieces("a-1"), [3])
        self.assertEqual(self.pieces("1-a"), [3])
        self.assertEqual(self.pieces("-a"), [2])
        self.assertEqual(self.pieces("a--b"), [4])
        self.assertEqual(self.pieces("a-"), [2])
        self.assertEqual(self.pieces("a-\u4e00"), [2, 3])
        self.assertEqual(self.pieces("1-\u4e00"), [2, 3])
        self.assertEqual(self.pieces("a\u00adb"), [2, 3])
        self.assertEqual(self.pieces("a\u00ad b"), [3, 4])

    def test_wide(self):
        for code in (12353, 12543, 13312, 40959, 44032, 55203):
            self.assertEqual(self.pieces([code, 97]), [1, 2], code)
            self.assertEqual(self.pieces([97, code]), [1, 2], code)
        for code in (12352, 12544, 13311, 40960, 44031, 55204):
            self.assertEqual(self.pieces([code, 97]), [2], code)


class WayZeroTest(unittest.TestCase):
    def test_as_much_as_fits(self):
        self.assertEqual(lines_of("a a a", wide=25), [(0, 4, 0, 25, 8, 0), (4, 5, 0, 10, 19, 0)])
        self.assertEqual(lines_of("a a a", wide=24),
                         [(0, 2, 0, 10, 8, 0), (2, 4, 0, 10, 19, 0), (4, 5, 0, 10, 30, 0)])
        self.assertEqual(lines_of("a a a", wide=40), [(0, 5, 0, 40, 8, 0)])

    def test_first_stretch_that_does_not_fit(self):
        self.assertEqual(lines_of("bb b", wide=39), [(0, 3, 0, 40, 8, 1), (3, 4, 0, 20, 19, 0)])
        self.assertEqual(lines_of("bb b", wide=0), [(0, 3, 0, 40, 8, 1), (3, 4, 0, 20, 19, 1)])

    def test_ends_at_first_that_does_not_fit(self):
        # The line to the third place would fit again: a and b are so much nearer to one another.
        rows = ("font 10 8 2 1", "letter a 10", "letter b 10", "char 19968 a", "char 19969 b", "pair b b -30")
        text = [19968, 19969, 19969]
        self.assertEqual(cuts_of(text, wide=15, fonts=[font(*rows)]), [(0, 1), (1, 3)])
        self.assertEqual(lines_of(text, wide=15, fonts=[font(*rows)])[1], (1, 3, 0, -10, 19, 0))

    def test_not_beyond_a_must(self):
        self.assertEqual(cuts_of("a\na a", wide=1000), [(0, 2), (2, 5)])

    def test_hanging_ends(self):
        self.assertEqual(lines_of("a   b  \n", wide=20), [(0, 4, 0, 10, 8, 0), (4, 8, 0, 20, 19, 0)])
        self.assertEqual(lines_of("  \n ", wide=0), [(0, 3, 0, 0, 8, 0), (3, 4, 0, 0, 19, 0)])
        self.assertEqual(lines_of("  a", wide=20), [(0, 3, 0, 20, 8, 0)])
        self.assertEqual(lines_of("  a", wide=19), [(0, 2, 0, 0, 8, 0), (2, 3, 0, 10, 19, 0)])

    def test_empty_and_ended_texts(self):
        self.assertEqual(lines(*piece("")), [0])
        self.assertEqual(lines(*piece("", spans=[])), [0])
        self.assertEqual(lines(*piece("", bands=[0, 500, 0, 0], way=1, setting=3, side=1)), [0])
        self.assertEqual(lines_of("\n"), [(0, 1, 0, 0, 8, 0)])
        self.assertEqual(lines_of("a\n"), [(0, 2, 0, 10, 8, 0)])
        self.assertEqual(lines_of("a\n\n"), [(0, 2, 0, 10, 8, 0), (2, 3, 0, 0, 19, 0)])


class SoftHyphenTest(unittest.TestCase):
    def test_inside_and_at_the_end(self):
        text = [97, SHY, 97]
        self.assertEqual(lines_of(text, wide=20), [(0, 3, 0, 20, 8, 0)])
        self.assertEqual(lines_of(text, wide=19), [(0, 2, 0, 14, 8, 0), (2, 3, 0, 10, 19, 0)])
        self.assertEqual(lines_of(text, wide=13), [(0, 2, 0, 14, 8, 1), (2, 3, 0, 10, 19, 0)])

    def test_before_hanging_blanks(self):
        self.assertEqual(lines_of([97, SHY, 32, 32, 97], wide=20), [(0, 4, 0, 14, 8, 0), (4, 5, 0, 10, 19, 0)])
        self.assertEqual(lines_of([97, SHY, 32, 97], wide=25), [(0, 4, 0, 25, 8, 0)])
        self.assertEqual(lines_of([97, SHY, 32, 10], wide=25), [(0, 4, 0, 14, 8, 0)])

    def test_at_the_texts_end_and_alone(self):
        self.assertEqual(lines_of([97, SHY]), [(0, 2, 0, 14, 8, 0)])
        self.assertEqual(lines_of([SHY]), [(0, 1, 0, 4, 8, 0)])
        self.assertEqual(lines_of([97, SHY, SHY]), [(0, 3, 0, 14, 8, 0)])
        self.assertEqual(lines_of([97, SHY, SHY, 98], wide=14), [(0, 3, 0, 14, 8, 0), (3, 4, 0, 20, 19, 1)])

    def test_joined_and_paired_across(self):
        self.assertEqual(lines_of([102, SHY, 105], wide=10), [(0, 3, 0, 9, 8, 0)])
        self.assertEqual(lines_of([97, SHY, 98], wide=28), [(0, 3, 0, 28, 8, 0)])

    def test_hyphen_joins_and_pairs(self):
        rows = ("font 10 8 2 1", "letter a 10", "letter h 4", "letter j 11", "letter c 6", "char 97 a", "char 45 h",
                "char 99 c", "join a h j", "pair c h -3")
        self.assertEqual(lines_of([97, SHY], fonts=[font(*rows)])[0][3], 11)
        self.assertEqual(lines_of([99, SHY], fonts=[font(*rows)])[0][3], 7)


class WayOneTest(unittest.TestCase):
    def test_even(self):
        text = "aa aa a bb aa"
        self.assertEqual(cuts_of(text, wide=60), [(0, 8), (8, 11), (11, 13)])
        self.assertEqual(lines_of(text, wide=60, way=1),
                         [(0, 6, 0, 45, 8, 0), (6, 11, 0, 55, 19, 0), (11, 13, 0, 20, 30, 0)])

    def test_each_paragraph_by_itself(self):
        text = "aa aa a bb aa\naa aa a bb aa"
        self.assertEqual(cuts_of(text, wide=60, way=1), [(0, 6), (6, 11), (11, 14), (14, 20), (20, 25), (25, 27)])

    def test_too_wide_lines(self):
        # Two lines of one word each would be 2^33 and more: one line of both costs less.
        self.assertEqual(lines_of("bb bb", wide=10, way=1), [(0, 5, 0, 85, 8, 1)])
        self.assertEqual(cuts_of("bb bb", wide=10), [(0, 3), (3, 5)])
        # What is left of the first line, squared, is more than 2^32: too wide a line is better.
        self.assertEqual(cuts_of([97, 32, BOX], wide=65546, boxes=[65536, 0, 0], way=1), [(0, 2), (2, 3)])
        self.assertEqual(cuts_of([97, 32, BOX], wide=65547, boxes=[65537, 0, 0], way=1), [(0, 3)])
        # Nearest of all: 2^32 left squared, or too much by 1.
        thin = font("font 10 8 2 1", "letter none 10", "letter sp 1", "char 32 sp")
        self.assertEqual(cuts_of([97, 32, BOX], wide=65546, boxes=[65536, 0, 0], way=1, fonts=[thin]),
                         [(0, 2), (2, 3)])
        # 2^32 and 1 both ways, with three lines or two.
        boxes = [1, 0, 0, 65536, 0, 0, 100, 0, 0]
        self.assertEqual(cuts_of([BOX, 32, BOX, 32, BOX], wide=65537, boxes=boxes, way=1, fonts=[thin]),
                         [(0, 4), (4, 5)])
        # One line that is too wide, or two: the squares of what's too much decide.
        boxes = [65536, 0, 0, 1, 0, 0]
        self.assertEqual(cuts_of([BOX, 0x4e00, BOX], wide=0, boxes=boxes, way=1), [(0, 3)])
        boxes = [65536, 0, 0, 65536, 0, 0]
        self.assertEqual(cuts_of([BOX, 0x4e00, BOX], wide=0, boxes=boxes, way=1), [(0, 2), (2, 3)])

    def test_fewest_lines(self):
        self.assertEqual(cuts_of([0x4e01] * 5, wide=0, way=1), [(0, 5)])
        # Lines of no width leave nothing of a room of 0: with the sum 0 in any case, the fewest lines are two.
        self.assertEqual(cuts_of([0x4e01, 0x4e01, 10, 0x4e01, 0x4e01], wide=0, way=1), [(0, 3), (3, 5)])

    def test_last_line_begins_latest(self):
        self.assertEqual(cuts_of([0x4e00, 0x4e01, 0x4e01, 0x4e01, 0x4e00], wide=10, way=1), [(0, 4), (4, 5)])

    def test_and_so_on_back(self):
        # 13 and 28 left, or 28 and 13: the last line begins at 6 with both, the one before at 4 or at 2.
        self.assertEqual(cuts_of("a a a bff", wide=38, way=1), [(0, 4), (4, 6), (6, 9)])
        self.assertEqual(cuts_of("a a a bff\na a a bff", wide=38, way=1)[3:], [(10, 14), (14, 16), (16, 19)])

    def test_line_that_ends_with_a_hyphen(self):
        text = [97, 32, 97, SHY, 97]
        self.assertEqual(cuts_of(text, wide=29), [(0, 4), (4, 5)])
        self.assertEqual(cuts_of(text, wide=29, way=1), [(0, 2), (2, 5)])
        # Its last character is a blank: that is no line that ends with a hyphen.
        self.assertEqual(cuts_of([97, 32, 97, SHY, 32, 97], wide=29, way=1), [(0, 5), (5, 6)])

    def test_how_much_a_hyphen_costs(self):
        # What is left of the first line squared, or 10^6 and nothing left.
        text = [BOX, 0x200b, BOX, SHY, BOX]
        thin = font("font 10 8 2 1", "letter z 0")
        for left, at in ((999, 2), (1000, 4), (1001, 4)):
            boxes = [5000 - left, 0, 0, left - 4, 0, 0, 5, 0, 0]
            spans = [1, 0, 10, 1, 1, 10, 3, 0, 10]
            got = cuts_of(text, wide=5000, way=1, boxes=boxes, spans=spans, fonts=[FONT, thin])
            self.assertEqual(got, [(0, at), (at, 5)], left)
        # With 1 left beside the hyphen that way costs 1 more.
        boxes = [4000, 0, 0, 995, 0, 0, 6, 0, 0]
        got = cuts_of(text, wide=5000, way=1, boxes=boxes, spans=spans, fonts=[FONT, thin])
        self.assertEqual(got, [(0, 2), (2, 5)])

    def test_last_line_costs_nothing(self):
        self.assertEqual(cuts_of("aa a aa", wide=35, way=1), [(0, 5), (5, 7)])

    def test_empty_lines_are_counted_in_a_way(self):
        # Line 1 is too narrow for bb: it stays empty if bb would come to it.
        bands = [11, 22, 0, 35]
        self.assertEqual(lines_of("a bb", wide=50, way=1, bands=bands),
                         [(0, 2, 0, 10, 8, 0), (2, 2, 0, 0, 19, 0), (2, 4, 0, 40, 30, 0)])
        self.assertEqual(cuts_of("a bb a", wide=55, way=1, bands=bands), [(0, 5), (5, 6)])

    def test_empty_lines_have_no_beginning(self):
        # Letters of no width but the last, which doesn't fit in the lines that bands touch: every way costs nothing,
        # and has as many lines. Empty lines aren't looked at where it's asked which line begins latest.
        narrow = font("font 1 1 0 0", "letter n 0", "letter w 5", "char 119 w")

        def cuts(text, lines_without_room, **named):
            bands = [0, lines_without_room, 5, 0]
            return cuts_of(text, wide=5, way=1, spans=[len(text), 0, 1], bands=bands, fonts=[narrow], **named)

        self.assertEqual(cuts("a w", 1), [(0, 2), (2, 3)])
        self.assertEqual(cuts("a a w", 1), [(0, 4), (4, 5)])
        self.assertEqual(cuts("a a w", 2), [(0, 2), (2, 4), (4, 5)])
        self.assertEqual(cuts("a a w", 4), [(0, 2), (2, 4), (4, 4), (4, 4), (4, 5)])
        self.assertEqual(cuts("a a a w", 2), [(0, 4), (4, 6), (6, 7)])
        self.assertEqual(cuts("a a a w", 3), [(0, 2), (2, 4), (4, 6), (6, 7)])
        self.assertEqual(cuts("a\na a w", 3), [(0, 2), (2, 4), (4, 6), (6, 7)])
        self.assertEqual(cuts("a\na a w", 2), [(0, 2), (2, 6), (6, 7)])

    def test_ways_of_one_sum_through_several_bands(self):
        # The letter v fits in line 2, w below line 5: before v there are two lines in any case, behind it three.
        narrow = font("font 1 1 0 0", "letter n 0", "letter w 5", "letter v 2", "char 119 w", "char 118 v")
        bands = [0, 2, 5, 0, 2, 3, 3, 0, 3, 6, 5, 0]
        self.assertEqual(cuts_of("a a v a a w", wide=5, way=1, spans=[11, 0, 1], bands=bands, fonts=[narrow]),
                         [(0, 2), (2, 4), (4, 6), (6, 8), (8, 10), (10, 10), (10, 11)])
        self.assertEqual(cuts_of("a v a a a w", wide=5, way=1, spans=[11, 0, 1], bands=bands, fonts=[narrow]),
                         [(0, 2), (2, 2), (2, 4), (4, 6), (6, 8), (8, 10), (10, 11)])

    def test_least_sum_ahead_of_latest_beginning(self):
        # With room 1 each line that is used costs 1 more, so only one is, though more would begin later.
        narrow = font("font 1 1 0 0", "letter n 0", "letter w 5", "char 119 w")
        self.assertEqual(cuts_of("a a a w", wide=5, way=1, spans=[7, 0, 1], bands=[0, 3, 4, 0], fonts=[narrow]),
                         [(0, 6), (6, 6), (6, 6), (6, 7)])

    def test_bands_change_what_is_even(self):
        text = "aa aa a bb aa"
        bands = [0, 11, 0, 15]
        self.assertEqual(cuts_of(text, wide=60, way=1, bands=bands), [(0, 6), (6, 11), (11, 13)])
        bands = [11, 22, 0, 20]
        self.assertEqual(lines_of(text, wide=60, way=1, bands=bands),
                         [(0, 8, 0, 60, 8, 0), (8, 11, 0, 40, 19, 0), (11, 13, 0, 20, 30, 0)])

    def test_indent(self):
        text = "aa aa a bb aa"
        self.assertEqual(cuts_of(text, wide=60, way=1, indent=40), [(0, 3), (3, 8), (8, 11), (11, 13)])


class BandTest(unittest.TestCase):
    def test_left_and_right(self):
        bands = [0, 11, 7, 0, 11, 22, 0, 9]
        self.assertEqual(lines_of("a a a", wide=19, bands=bands),
                         [(0, 2, 7, 10, 8, 0), (2, 4, 0, 10, 19, 0), (4, 5, 0, 10, 30, 0)])
        self.assertEqual(lines_of("a a a", wide=19, bands=bands, setting=1),
                         [(0, 2, 9, 10, 8, 0), (2, 4, 0, 10, 19, 0), (4, 5, 9, 10, 30, 0)])

    def test_greatest_of_each(self):
        bands = [0, 11, 7, 3, 5, 6, 2, 20, 0, 1, 6, 19]
        self.assertEqual(lines_of("a", wide=40, bands=bands, setting=1), [(0, 1, 10, 10, 8, 0)])

    def test_what_it_has_in_common(self):
        for top, bottom, touched in ((10, 11, (0,)), (11, 12, (1,)), (10, 12, (0, 1)), (0, 1, (0,)), (21, 22, (1,)),
                                     (22, 30, ()), (5, 5, ()), (9, 3, ()), (0, 2 ** 24, (0, 1))):
            found = lines_of("a\na", wide=40, bands=[top, bottom, 3, 0])
            self.assertEqual([row[2] for row in found], [3 if i in touched else 0 for i in (0, 1)], (top, bottom))

    def test_left_empty(self):
        self.assertEqual(lines_of("b", wide=35, bands=[0, 22, 30, 0]),
                         [(0, 0, 0, 0, 8, 0), (0, 0, 0, 0, 19, 0), (0, 1, 0, 20, 30, 0)])
        for way in (0, 1):
            self.assertEqual(lines_of("b a b", wide=35, way=way, bands=[11, 22, 14, 10, 33, 55, 0, 16]), [
                (0, 4, 0, 35, 8, 0), (4, 4, 0, 0, 19, 0), (4, 5, 0, 20, 30, 0)])

    def test_left_empty_though_nothing_is_taken(self):
        for way in (0, 1):
            self.assertEqual(lines_of("b", wide=15, way=way, bands=[0, 23, 0, 0]), [
                (0, 0, 0, 0, 8, 0), (0, 0, 0, 0, 19, 0), (0, 0, 0, 0, 30, 0), (0, 1, 0, 20, 41, 1)])

    def test_left_empty_between_paragraphs(self):
        self.assertEqual(lines_of("a\nb\na", wide=20, bands=[11, 22, 5, 0]), [
            (0, 2, 0, 10, 8, 0), (2, 2, 0, 0, 19, 0), (2, 4, 0, 20, 30, 0), (4, 5, 0, 10, 41, 0)])

    def test_blank_paragraph_fits_anywhere(self):
        self.assertEqual(lines_of("\n  \na", wide=10, bands=[0, 33, 10, 10]), [
            (0, 1, 10, 0, 8, 0), (1, 4, 10, 0, 19, 0), (4, 4, 0, 0, 30, 0), (4, 5, 0, 10, 41, 0)])

    def test_room_is_0_at_least(self):
        self.assertEqual(lines_of("\u4e01", wide=10, indent=30, bands=[0, 11, 8, 8], setting=1),
                         [(0, 1, 38, 0, 8, 0)])
        self.assertEqual(lines_of("a", wide=10, indent=30, setting=1), [(0, 1, 20, 10, 8, 1)])

    def test_indent_moves_to_the_line_that_is_used(self):
        # With the indent a doesn't fit in line 0, without it would.
        self.assertEqual(lines_of("a a", wide=20, indent=8, bands=[0, 11, 5, 0]),
                         [(0, 0, 0, 0, 8, 0), (0, 2, 8, 10, 19, 0), (2, 3, 0, 10, 30, 0)])


class LaidTest(unittest.TestCase):
    def begins(self, text, **named):
        return [row[2] for row in lines_of(text, **named)]

    def test_settings_and_sides(self):
        for side, expected in ((0, (0, 25, 12, 0)), (1, (25, 0, 12, 25)), (2, (0, 25, 12, 0))):
            for setting in range(4):
                self.assertEqual(self.begins("a", wide=35, side=side, setting=setting), [expected[setting]])
        for setting, begin in enumerate((23, 0, 11, 23)):
            self.assertEqual(self.begins([ALEF], wide=35, side=2, setting=setting), [begin])
            self.assertEqual(self.begins([ALEF], wide=35, side=1, setting=setting), [begin])

    def test_rest_below_0(self):
        for side, expected in ((0, (0, -5, -3, 0)), (1, (-5, 0, -3, -5))):
            for setting in range(4):
                self.assertEqual(lines_of("b", wide=15, side=side, setting=setting),
                                 [(0, 1, expected[setting], 20, 8, 1)])

    def test_each_paragraph_has_its_side(self):
        text = [97, 10, ALEF, 10, 49, 10, RI, ALEF, PI, 97]
        self.assertEqual(self.begins(text, side=2, wide=40), [0, 28, 0, 0])
        self.assertEqual(self.begins(text, side=1, wide=40), [30, 28, 32, 18])

    def test_indent(self):
        text = "a a\na a"
        self.assertEqual(lines_of(text, wide=30, indent=6), [
            (0, 2, 6, 10, 8, 0), (2, 4, 0, 10, 19, 0), (4, 6, 6, 10, 30, 0), (6, 7, 0, 10, 41, 0)])
        self.assertEqual(lines_of(text, wide=30, indent=6, side=1), [
            (0, 2, 14, 10, 8, 0), (2, 4, 20, 10, 19, 0), (4, 6, 14, 10, 30, 0), (6, 7, 20, 10, 41, 0)])
        self.assertEqual(self.begins(text, wide=30, indent=6, setting=1), [20, 20, 20, 20])
        self.assertEqual(self.begins(text, wide=30, indent=6, setting=2), [13, 10, 13, 10])
        self.assertEqual(self.begins(text, wide=30, indent=6, setting=2, side=1), [7, 10, 7, 10])
        self.assertEqual(self.begins(text, wide=31, indent=6), [6, 6])

    def test_justified(self):
        self.assertEqual(lines_of("a a a b", wide=53, setting=3), [(0, 6, 0, 53, 8, 0), (6, 7, 0, 20, 19, 0)])
        self.assertEqual(lines_of("a a a b", wide=53, setting=3, side=1), [(0, 6, 0, 53, 8, 0), (6, 7, 33, 20, 19, 0)])
        self.assertEqual(lines_of("a a a b", wide=53, setting=3, indent=9, bands=[0, 11, 2, 2]),
                         [(0, 6, 11, 40, 8, 0), (6, 7, 0, 20, 19, 0)])
        self.assertEqual(lines_of("a a a b", wide=55, setting=3, indent=9, bands=[0, 11, 2, 2]),
                         [(0, 6, 11, 42, 8, 0), (6, 7, 0, 20, 19, 0)])

    def test_not_justified(self):
        self.assertEqual(lines_of("aaa b", wide=32, setting=3), [(0, 4, 0, 30, 8, 0), (4, 5, 0, 20, 19, 0)])
        self.assertEqual(lines_of("aaa b", wide=32, setting=3, side=1), [(0, 4, 2, 30, 8, 0), (4, 5, 12, 20, 19, 0)])
        self.assertEqual(lines_of("a a\na a", wide=32, setting=3), [(0, 4, 0, 25, 8, 0), (4, 7, 0, 25, 19, 0)])
        self.assertEqual(lines_of("a a b", wide=25, setting=3)[0], (0, 4, 0, 25, 8, 0))
        self.assertEqual(lines_of([97, 160, 97, 32, 98], wide=32, setting=3)[0], (0, 4, 0, 30, 8, 0))
        text = [98, 32, 97, BOX]
        self.assertEqual(lines_of([97, 32] + text, wide=30, setting=3, side=1, boxes=[40, 0, 0]),
                         [(0, 2, 20, 10, 8, 0), (2, 4, 10, 20, 19, 0), (4, 6, -20, 50, 30, 1)])

    def test_joined_blank_is_none(self):
        rows = ("font 10 8 2 1", "letter a 10", "letter sp 5", "letter as 12", "char 97 a", "char 32 sp", "join a sp as")
        self.assertEqual(lines_of("a a a", wide=25, setting=3, fonts=[font(*rows)]),
                         [(0, 4, 0, 22, 8, 0), (4, 5, 0, 10, 19, 0)])


class HeightTest(unittest.TestCase):
    def test_greatest_of_spans_and_boxes(self):
        tall = font("font 10 30 1 0", "letter a 10")
        low = font("font 10 1 9 7", "letter a 10")
        self.assertEqual([row[4] for row in lines_of("a\na", spans=[1, 0, 10, 2, 1, 10], fonts=[tall, low])], [30, 76])
        self.assertEqual([row[4] for row in lines_of("a\na", spans=[3, 1, 10, 0, 0, 20], fonts=[tall, low])], [60, 136])
        self.assertEqual([row[4] for row in lines_of("a\na", fonts=[low, tall])], [1, 18])
        self.assertEqual([row[4] for row in lines_of([97, 10, BOX], boxes=[1, 50, 40])], [50, 141])
        self.assertEqual([row[4] for row in lines_of([BOX, 10, BOX], boxes=[1, 9, 0, 1, 0, 4])], [9, 23])

    def test_scaled(self):
        odd = font("font 3 4 5 1", "letter a 4")
        # 4/3 of 1 is 1, 5/3 is 2, 1/3 is 0; the half is cut upwards.
        self.assertEqual([row[3:5] for row in lines_of("a\na", spans=[3, 0, 1], fonts=[odd])], [(1, 1), (1, 4)])
        half = font("font 2 1 3 1", "letter a 1")
        self.assertEqual([row[3:5] for row in lines_of("a\na", spans=[3, 0, 1], fonts=[half])], [(1, 1), (1, 5)])

    def test_no_heights(self):
        flat = font("font 10 0 0 0", "letter a 10")
        self.assertEqual([row[4] for row in lines_of([97, 10, BOX, 10, 97], boxes=[5, 0, 0], fonts=[flat])], [0, 1, 2])
        self.assertEqual(lines_of("b", wide=5, bands=[0, 2, 0, 0], fonts=[flat]),
                         [(0, 0, 0, 0, 0, 0), (0, 0, 0, 0, 1, 0), (0, 1, 0, 10, 2, 1)])


class WidthTest(unittest.TestCase):
    def width(self, text, **named):
        found = lines_of(text, **named)
        self.assertEqual(len(found), 1)
        return found[0][3]

    def test_letters(self):
        self.assertEqual(self.width("abfi"), 10 - 2 + 20 + 9)
        self.assertEqual(self.width("ba"), 30)
        self.assertEqual(self.width("x"), 10)
        self.assertEqual(self.width("f i"), 15)
        self.assertEqual(self.width([97, ACUTE, 98]), 28)
        self.assertEqual(self.width([97, HAT, 98]), 33)
        self.assertEqual(self.width([97, LI, PI, 98, FI, PI]), 28)

    def test_without_letters(self):
        self.assertEqual(self.width([LI, RI, FI, PI, 10]), 0)
        self.assertEqual(self.width([LI, SHY, PI]), 0)

    def test_spans_end_stretches(self):
        self.assertEqual(self.width("ab", spans=[1, 0, 10, 1, 0, 10]), 30)
        self.assertEqual(self.width("fi", spans=[1, 0, 10, 1, 0, 10]), 10)
        self.assertEqual(self.width([97, ACUTE], spans=[1, 0, 10, 1, 0, 10]), 10)
        self.assertEqual(self.width([97, ACUTE, 98], spans=[2, 0, 10, 0, 0, 10, 1, 0, 20]), 50)
        other = font("font 10 8 2 1", "letter a 1", "letter b 3", "char 98 b")
        self.assertEqual(self.width("abab", spans=[2, 0, 10, 2, 1, 10], fonts=[FONT, other]), 32)

    def test_boxes_end_stretches(self):
        self.assertEqual(self.width([97, BOX, 98, BOX], boxes=[7, 0, 0, 1, 0, 0]), 38)
        self.assertEqual(self.width([102, BOX, 105], boxes=[0, 0, 0]), 10)

    def test_levels_end_stretches(self):
        self.assertEqual(self.width([97, RI, 98, PI]), 30)
        self.assertEqual(self.width([ALEF, BET]), 12 + 3 + 14)
        self.assertEqual(self.width([BET, ALEF]), 26)

    def test_joins_one_after_another(self):
        rows = ("font 10 8 2 1", "letter a 10", "letter b 7", "letter c 3", "char 97 a", "join a a b", "join b a c")
        self.assertEqual([self.width("a" * n, fonts=[font(*rows)]) for n in range(1, 8)], [10, 7, 3, 13, 10, 6, 16])

    def test_broken_within_what_was_joined(self):
        self.assertEqual(lines_of([102, SHY, 105, 97], wide=10),
                         [(0, 2, 0, 10, 8, 0), (2, 4, 0, 14, 19, 1)])


if __name__ == "__main__":
    unittest.main()
