"""[50] and laidforall/galleys.py."""

import unittest

from layouts import block
from laidforall.errors import NoSuchNumber, TooLarge
from laidforall.galleys import Galley

ONE = block(1, 0, 0, False, (3, ("blank", 1)), (2, ("joint", 1), (), (4, 2)), (1, ("end",)))

TWO = block(2, 1, 1, True, (5, ("end",), (1, 2), (7,)))


def long_block(many, figures=()):
    pieces = [(1, ("blank", 1))] * (many - 1) + [(1, ("end",), (), figures)]
    return block(1, 0, 0, False, *pieces)


class GalleyTest(unittest.TestCase):
    def test_parts(self):
        galley = Galley([ONE, TWO])
        self.assertEqual(len(galley), 4)
        self.assertEqual(list(galley), [ONE, TWO])
        self.assertEqual(list(galley), list(galley))
        self.assertEqual(galley.pieces, list(ONE[4] + TWO[4]))
        self.assertEqual(galley.figures, [4, 2, 7])

    def test_empty(self):
        for galley in (Galley(), Galley([]), Galley() + Galley()):
            self.assertEqual((len(galley), list(galley)), (0, []))
            self.assertEqual((galley.pieces, galley.figures), ([], []))
            with self.assertRaises(NoSuchNumber) as caught:
                galley.block_at(0)
            self.assertEqual(caught.exception.number, 0)

    def test_block_at(self):
        galley = Galley([ONE, TWO, long_block(3)])
        spots = [(0, 0, 3)] * 3 + [(1, 3, 4)] + [(2, 4, 7)] * 3
        self.assertEqual([galley.block_at(piece) for piece in range(7)], spots)
        for piece in (-1, 7, 8, -7):
            with self.assertRaises(NoSuchNumber) as caught:
                galley.block_at(piece)
            self.assertEqual(caught.exception.number, piece)

    def test_equality(self):
        self.assertEqual(Galley([ONE, TWO]), Galley([ONE]) + Galley([TWO]))
        self.assertEqual(Galley(), Galley([]))
        self.assertNotEqual(Galley([ONE, TWO]), Galley([TWO, ONE]))
        self.assertNotEqual(Galley([ONE]), Galley())
        self.assertNotEqual(Galley([ONE]), [ONE])
        self.assertFalse(Galley([ONE]) == ONE)

    def test_sums(self):
        first, second = Galley([ONE]), Galley([TWO])
        both = first + second
        self.assertEqual((list(first), list(second), list(both)), ([ONE], [TWO], [ONE, TWO]))
        held = first
        first += second
        self.assertIs(first, held)
        self.assertEqual((list(held), list(second)), ([ONE, TWO], [TWO]))
        self.assertEqual((len(held), held.pieces, held.figures), (4, both.pieces, [4, 2, 7]))
        self.assertEqual(held.block_at(3), (1, 3, 4))
        second += second
        self.assertEqual(list(second), [TWO, TWO])

    def test_bounds(self):
        self.assertEqual(len(Galley([long_block(39), long_block(1)])), 40)
        self.assertEqual(Galley([long_block(40, (1, 2, 3, 4))]).figures, [1, 2, 3, 4])
        for blocks, many in (
                ([long_block(41)], 41), ([long_block(20), long_block(22)], 42),
                ([long_block(41, (1,) * 9)], 41), ([long_block(1, (1,) * 5)], 5),
                ([long_block(2, (1, 2, 3))] * 2, 6), ([long_block(40, (1,) * 5)], 5)):
            with self.assertRaises(TooLarge) as caught:
                Galley(blocks)
            self.assertEqual(caught.exception.many, many)

    def test_sums_that_are_too_large(self):
        cases = (
            (long_block(20), long_block(21), 41),
            (long_block(20, (1, 1, 1)), long_block(21, (1, 1)), 41),
            (long_block(20, (1, 1, 1)), long_block(20, (1, 1)), 5),
        )
        for one, two, many in cases:
            first, second = Galley([one]), Galley([two])
            with self.assertRaises(TooLarge) as caught:
                first + second
            self.assertEqual(caught.exception.many, many)
            with self.assertRaises(TooLarge) as caught:
                first += second
            self.assertEqual(caught.exception.many, many)
            self.assertEqual((first, second), (Galley([one]), Galley([two])))
            self.assertEqual((len(first), len(first.figures)), (20, len(one[4][-1][3])))

    def test_copies(self):
        blocks = [ONE]
        galley = Galley(blocks)
        blocks.append(TWO)
        self.assertEqual(list(galley), [ONE])
        galley.pieces.append(1)
        galley.figures.clear()
        self.assertEqual((galley.pieces, galley.figures), (list(ONE[4]), [4, 2]))


if __name__ == "__main__":
    unittest.main()
