"""[34] and laidforall/faces.py."""

import unittest

from laidforall.errors import BadFace
from laidforall.faces import Face

OUTLINE = (((0, 0), (2, 0), (2, 3), (0, 3)),)

ROWS = [("b", 2, OUTLINE), ("a", 3, ()), ("-", 9, OUTLINE)]


class FaceTest(unittest.TestCase):
    def setUp(self):
        self.face = Face("plain", 5, 4, ROWS)

    def test_fields(self):
        self.assertEqual((self.face.name, self.face.height, self.face.blank), ("plain", 5, 4))

    def test_signs(self):
        self.assertEqual(list(self.face), ["b", "a", "-"])
        self.assertEqual(len(self.face), 3)
        self.assertEqual([sign in self.face for sign in "ab-c "], [True, True, True, False, False])
        self.assertEqual((list(Face("x", 1, 1, [])), len(Face("x", 1, 1, []))), ([], 0))

    def test_advance_and_outline(self):
        told = {"b": (2, OUTLINE), "a": (3, ()), "-": (9, OUTLINE), "c": (1, ()), " ": (4, ()), "~": (1, ())}
        for sign, (advance, outline) in told.items():
            self.assertEqual(self.face.advance(sign), advance)
            self.assertEqual(self.face.outline(sign), outline)

    def test_width(self):
        self.assertEqual(self.face(""), 0)
        self.assertEqual(self.face("", 3, 3), 0)
        self.assertEqual(self.face("ab"), 5)
        self.assertEqual(self.face("a b-c"), 3 + 4 + 2 + 9 + 1)
        self.assertEqual(self.face("a b", 2), 18)
        self.assertEqual(self.face("a b", 2, 3), 27)
        self.assertEqual(self.face("a b", wide=1), 12)
        self.assertEqual(self.face("aa", wide=2, size=3), 22)
        self.assertEqual(self.face("aa", size=1, wide=0), 6)

    def test_bad_rows(self):
        told = [
            ([(" ", 1, ())], " "),
            ([("a", 1, ()), ("a", 2, ())], "a"),
            ([("a", 1, ()), ("b", 2, ()), ("b", 2, ()), ("a", 1, ())], "b"),
            ([("a", 1, ()), ("b", 2, ()), ("a", 2, ()), (" ", 1, ())], "a"),
            ([("a", 1, ()), (" ", 2, ()), ("a", 2, ())], " "),
        ]
        for rows, sign in told:
            with self.assertRaises(BadFace) as caught:
                Face("x", 1, 1, rows)
            self.assertEqual(caught.exception.sign, sign)

    def test_rows_are_copied(self):
        rows = list(ROWS)
        face = Face("plain", 5, 4, rows)
        self.assertEqual(rows, ROWS)
        rows.clear()
        self.assertEqual(list(face), ["b", "a", "-"])
        self.assertEqual(face("b"), 2)


if __name__ == "__main__":
    unittest.main()
