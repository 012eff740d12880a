"""[80] and laidforall/pictures.py."""

import unittest

import pages
import samples
from laidforall.faces import Face
from laidforall.inks import Ink
from laidforall.outlines import inked
from laidforall.pictures import drawn, picture

FACES = [
    Face("a", 1, 1, [("a", 2, pages.SQUARE), ("b", 3, pages.BAR), ("c", 1, ())]),
    Face("b", 2, 1, [("a", 1, pages.BAR)]), Face("c", 1, 1, []),
]


def cells_of(plate, page):
    """The cells of a page, one by one."""
    found = set()
    for number, y, x, face, size, sign in plate:
        for row, start, end in inked(FACES[face].outline(sign), size):
            if number == page:
                found |= {(x + cell, y + row) for cell in range(start, end)}
    return found


class PictureTest(unittest.TestCase):
    def test_one_sign(self):
        self.assertEqual(picture([(1, 4, 7, 0, 1, "a")], FACES, 1), Ink([(7, 4)]))
        self.assertEqual(picture([(1, 4, 7, 0, 2, "a")], FACES, 1), Ink([(7, 4), (8, 4), (7, 5), (8, 5)]))

    def test_pages_and_signs_without_ink(self):
        plate = [(1, 0, 0, 0, 1, "a"), (1, 0, 1, 0, 1, "c"), (1, 0, 2, 2, 1, "a"), (3, 0, 5, 0, 1, "a")]
        self.assertEqual(list(picture(plate, FACES, 1)), [(0, 0, 1)])
        self.assertEqual(len(picture(plate, FACES, 2)), 0)
        self.assertEqual(list(picture(plate, FACES, 3)), [(0, 5, 6)])
        self.assertEqual(picture(plate, FACES, 0), Ink())
        self.assertEqual(picture([], FACES, 1), Ink())

    def test_signs_over_one_another(self):
        plate = [(1, 0, 0, 0, 2, "a"), (1, 0, 1, 0, 2, "a"), (1, 0, 1, 0, 2, "a")]
        self.assertEqual(list(picture(plate, FACES, 1)), [(0, 0, 3), (1, 0, 3)])
        self.assertEqual(len(picture(plate, FACES, 1)), 6)

    def test_against_a_count_of_cells(self):
        for seed in range(100):
            rnd = samples.chance(seed)
            plate = sorted((rnd.randint(1, 2), rnd.randint(0, 6), rnd.randint(0, 9), rnd.randint(0, 2),
                            rnd.randint(1, 3), rnd.choice("abc")) for _ in range(rnd.randint(0, 9)))
            given = list(plate)
            for page in (1, 2, 3):
                cells = cells_of(plate, page)
                ink = picture(plate, FACES, page)
                self.assertEqual(ink, Ink(list(cells)))
                self.assertEqual(len(ink), len(cells))
                self.assertEqual(drawn(ink), self.drawing(cells))
            self.assertEqual(plate, given)

    def drawing(self, cells):
        if not cells:
            return []
        across = [x for x, _ in cells]
        down = [y for _, y in cells]
        return ["".join("#" if (x, y) in cells else "." for x in range(min(across), max(across) + 1))
                for y in range(min(down), max(down) + 1)]


class DrawnTest(unittest.TestCase):
    def test_drawings(self):
        self.assertEqual(drawn(Ink()), [])
        self.assertEqual(drawn(Ink([(3, 3)])), ["#"])
        self.assertEqual(drawn(Ink([(-2, -1), (0, 1), (1, 1)])), ["#...", "....", "..##"])
        self.assertEqual(drawn(Ink([(5, 0), (4, 1), (6, 1)])), [".#.", "#.#"])

    def test_returned_lists_are_new(self):
        ink = Ink([(0, 0)])
        drawn(ink).clear()
        self.assertEqual(drawn(ink), ["#"])


if __name__ == "__main__":
    unittest.main()
