"""Classes of characters: the edges of each row, and what comes of them."""

import unittest

from brokenlines.signs import class_of
from pieces import ALEF, letters_of
from plain import klass

# Class, and the first and last character of each part, as the document lists them.
PARTS = (
    ("L", (65, 90), (97, 122), (170, 170), (181, 181), (186, 186), (192, 214), (216, 246), (248, 687), (880, 1423),
     (2304, 8191), (11264, 12287), (12293, 55295), (63744, 64255), (65536, 67583), (69632, 1114111)),
    ("R", (1424, 1424), (1470, 1535), (1984, 2303), (64285, 64335), (67584, 69631)),
    ("A", (1536, 1610), (1642, 1775), (1786, 1983), (64336, 65023), (65136, 65278)),
    ("N", (48, 57), (1632, 1641), (1776, 1785)),
    ("M", (768, 879), (1425, 1469), (1611, 1631), (8400, 8447)),
    ("LI", (8294, 8294)), ("RI", (8295, 8295)), ("FI", (8296, 8296)), ("PI", (8297, 8297)), ("B", (10, 10)),
)


class ClassTest(unittest.TestCase):
    def test_edges(self):
        told = {}
        for row in PARTS:
            for first, last in row[1:]:
                for code in (first, (first + last) // 2, last):
                    told[code] = row[0]
        for code in sorted(told):
            self.assertEqual(class_of(code), told[code], code)
        for row in PARTS:
            for first, last in row[1:]:
                for code in (first - 1, last + 1):
                    if 0 <= code <= 1114111 and code not in told:
                        self.assertEqual(class_of(code), "O", code)

    def test_others(self):
        for code in (0, 9, 11, 32, 33, 64, 91, 96, 123, 173, 215, 247, 688, 767, 8192, 8203, 8293, 8298, 11263, 12288,
                     12292, 57344, 63743, 64256, 64284, 65024, 65135, 65279, 65532, 65535):
            self.assertEqual(class_of(code), "O", code)

    def test_all_below_70000(self):
        for code in range(70000):
            self.assertEqual(class_of(code), klass(code), code)

    def test_seen(self):
        """Between two alefs: L is left as it stands, and so are digits; R, A and M are turned about with them."""
        for row in PARTS:
            for first, last in row[1:]:
                for code in (first, last):
                    found = [place for _, _, _, place, _, _ in letters_of([ALEF, code, code, ALEF])]
                    if row[0] in ("L", "N"):
                        self.assertEqual(found, [3, 1, 2, 0] if row[0] == "N" else [0, 1, 2, 3], code)
                    elif row[0] in ("R", "A", "M"):
                        self.assertEqual(found, [3, 2, 1, 0], code)


if __name__ == "__main__":
    unittest.main()
