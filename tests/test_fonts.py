"""Fonts: each wrong row is told by its number, right ones are taken."""

import unittest

from brokenlines.laying import letters, lines
from pieces import font, piece

HEAD = "font 1000 800 200 100"
A = "letter a 500"
B = "letter b 600"


class FontTest(unittest.TestCase):
    def answer(self, data):
        given = piece("a", fonts=[data])
        told = lines(*given)
        self.assertEqual(letters(*given)[0] < 0, told[0] < 0)
        return told[0]

    def wrong(self, *rows):
        """The last of these rows is wrong, and told so with rows behind it too."""
        self.assertEqual(self.answer(font(*rows)), -2 - len(rows), rows)
        self.assertEqual(self.answer(font(*rows, "char 98 a", "nothing")), -2 - len(rows), rows)

    def right(self, *rows):
        self.assertEqual(self.answer(font(*rows)), 1, rows)

    def test_no_lines_and_no_letter(self):
        self.assertEqual(self.answer([]), -3)
        self.assertEqual(self.answer(font(HEAD)), -4)
        self.right(HEAD, A)

    def test_last_line_without_its_end(self):
        self.assertEqual(self.answer(font(HEAD, A)[:-1]), -4)
        self.assertEqual(self.answer(list(b"font 1000 800 200 100")), -3)
        self.assertEqual(self.answer(font(HEAD, A) + [32]), -5)
        self.assertEqual(self.answer(font(HEAD, "letter", A)[:-1]), -4)
        self.assertEqual(self.answer([10]), -3)

    def test_head(self):
        for row in ("font 1 0 0 0", "font 16384 32767 32767 32767"):
            self.right(row, A)
        for row in ("", "font", "font 0 8 2 1", "font 16385 8 2 1", "font -1 8 2 1", "font 10 -1 2 1", "font 10 8 -1 1",
                    "font 10 8 2 -1", "font 10 32768 2 1", "font 10 8 32768 1", "font 10 8 2 32768", "font 10 8 2",
                    "font 10 8 2 1 1", "font  10 8 2 1", " font 10 8 2 1", "font 10 8 2 1 ", "Font 10 8 2 1",
                    "font 010 8 2 1", "font +10 8 2 1", "font 10 8 2 -0", "font 10 8 2 00", "font 10 8 2 x",
                    "font 10 8 2 1.", "font 10\t8 2 1", "letter a 500"):
            self.wrong(row)

    def test_one_head_alone(self):
        self.wrong(HEAD, A, HEAD)
        self.wrong(HEAD, A, "")
        self.wrong(HEAD, A, "word")

    def test_letter(self):
        self.right(HEAD, "letter a 0")
        self.right(HEAD, "letter a 32767")
        self.right(HEAD, "letter " + "a" * 31 + " 5")
        self.right(HEAD, "letter a_09z 5", "letter a_09 5")
        for row in ("letter a", "letter a 5 5", "letter a -1", "letter a 32768", "letter A 5", "letter 0a 5",
                    "letter _a 5", "letter a-b 5", "letter a.b 5", "letter " + "a" * 32 + " 5", "letter  5",
                    "letter a " + "9" * 20, "letter a " + "1" * 5000, "letter a 05", "letter a -0"):
            self.wrong(HEAD, row)
        self.wrong(HEAD, A, B, "letter a 700")

    def test_most_letters(self):
        rows = [HEAD] + ["letter l%d 1" % number for number in range(4096)]
        self.right(*rows)
        self.wrong(*rows, "letter more 1")

    def test_strokes(self):
        self.right(HEAD, A, "move -32768 32767", "line 0 0", "curve 1 2 3 4", "move 5 5", "curve -1 -2 -3 -4")
        for row in ("move 1", "move 1 2 3", "move 1 32768", "move -32769 1", "move 1 b", "line 1 2", "curve 1 2 3 4"):
            self.wrong(HEAD, A, row)
        for row in ("line 1", "line 1 2 3", "curve 1 2 3", "curve 1 2 3 4 5", "curve 1 2 3 99999", "line 01 2"):
            self.wrong(HEAD, A, "move 1 2", row)
        self.wrong(HEAD, "move 1 2")
        self.wrong(HEAD, A, "move 1 2", B, "line 1 2")
        self.right(HEAD, A, "move 1 2", "char 97 a", "line 1 2")

    def test_most_strokes(self):
        rows = [HEAD, A, "move 0 0"] + ["line 0 0"] * 1023
        self.right(*rows)
        self.right(*rows, B, "move 0 0")
        self.wrong(*rows, "line 0 0")
        self.wrong(*rows, "move 0 0")

    def test_char(self):
        self.right(HEAD, A, "char 0 a", "char 55295 a", "char 57344 a", "char 1114111 a", "char 10 a", "char 65532 a")
        for row in ("char 55296 a", "char 57343 a", "char 1114112 a", "char -1 a", "char 97", "char 97 b", "char a 97",
                    "char 97 a a", "char 097 a", "char 97 A"):
            self.wrong(HEAD, A, row)
        self.wrong(HEAD, A, B, "char 97 a", "char 97 b")
        self.assertEqual(self.answer(font(HEAD, A, "char 97 b", B)), -5)

    def test_pair(self):
        self.right(HEAD, A, B, "pair a b 32767", "pair b a -32768", "pair a a 0")
        for row in ("pair a b", "pair a b 32768", "pair a b -32769", "pair a c 1", "pair c a 1", "pair a b 1 1"):
            self.wrong(HEAD, A, B, row)
        self.wrong(HEAD, A, B, "pair a b 1", "pair a b 2")

    def test_join(self):
        self.right(HEAD, A, B, "join a b a", "join b a a", "join a a a")
        for row in ("join a b", "join a b c", "join a c b", "join c a b", "join a b a a"):
            self.wrong(HEAD, A, B, row)
        self.wrong(HEAD, A, B, "join a b a", "join a b b")

    def test_base_and_mark(self):
        self.right(HEAD, A, B, "base a 0 -32768 32767", "base a 15 1 2", "base b 0 1 2", "mark a 15 1 2", "mark b 0 0 0")
        for word in ("base", "mark"):
            for row in (" a 16 1 2", " a -1 1 2", " a 0 1", " a 0 1 2 3", " c 0 1 2", " a 0 1 32768", " a 0 -32769 1"):
                self.wrong(HEAD, A, B, word + row)
        self.wrong(HEAD, A, "base a 3 1 2", "base a 3 1 2")
        self.wrong(HEAD, A, "mark a 3 1 2", "mark a 4 1 2")

    def test_bytes(self):
        for byte in (0, 9, 13, 31, 127, 128, 200, 255):
            self.assertEqual(self.answer(font(HEAD, A) + list(b"char 97 a") + [byte, 10]), -5, byte)
            self.assertEqual(self.answer([byte]), -3)

    def test_most_lines(self):
        rows = [HEAD] + ["letter l%d 1" % number for number in range(64)]
        strokes = []
        for number in range(64):
            strokes += [rows[1 + number]] + ["move 0 0"] * 1023
        rows = [HEAD] + strokes
        self.assertEqual(len(rows), 65537)
        self.assertEqual(self.answer(font(*rows)), -2 - 65537)
        self.assertEqual(self.answer(font(*rows[:-1])), 1)

    def test_most_bytes(self):
        names = ["l%030d" % number for number in range(120)]
        rows = [HEAD] + ["letter %s 1" % name for name in names]
        rows += ["join %s %s %s" % (first, second, first) for first in names for second in names]
        taken, used = 0, 0
        while used + len(rows[taken]) + 1 <= 1048576:
            used += len(rows[taken]) + 1
            taken += 1
        self.right(*rows[:taken])
        self.wrong(*rows[:taken + 1])


if __name__ == "__main__":
    unittest.main()
