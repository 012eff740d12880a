"""[57] and laidforall/numbering.py."""

import itertools
import unittest

import layouts
from layouts import block
from test_layings import cases
from laidforall.books import Book
from laidforall.errors import NoSuchNumber
from laidforall.galleys import Galley
from laidforall.layings import cost_of, every_laying
from laidforall.numbering import Best


class BestTest(unittest.TestCase):
    def test_against_all_layings(self):
        counts = set()
        for blocks, galley, book in cases(157, 200):
            layings = layouts.all_layings(blocks, book)
            least = min(cost for _, cost in layings)
            told = [laying for laying, cost in layings if cost == least]
            best = Best(galley, book)
            self.assertEqual((best.cost, best.count), (least, len(told)))
            self.assertEqual(list(best.every_best()), told)
            self.assertEqual([best.nth(number) for number in range(len(told))], told)
            self.assertEqual(best.nth(), told[0])
            for laying, cost in layings:
                number = told.index(laying) if cost == least else None
                self.assertEqual(best.number_of(laying), number)
            counts.add(len(told))
        self.assertGreater(len(counts), 2)

    def test_numbers_beside_both_ends(self):
        for _, galley, book in cases(158, 20):
            best = Best(galley, book)
            for number in (-1, best.count, best.count + 1, -best.count):
                with self.assertRaises(NoSuchNumber) as caught:
                    best.nth(number)
                self.assertEqual(caught.exception.number, number)

    def test_tuples_that_are_no_laying(self):
        galley = Galley([block(1, 0, 0, False, (3, ("blank", 1)), (3, ("end",)))])
        best = Best(galley, Book(7, 1))
        self.assertEqual((best.cost, best.count, best.nth()), (0, 1, ((2, 0),)))
        for laying in ((), ((1, 0),), ((2, None),), ((2, 1),), ((2, 0), (2, 0)), ((3, 0),), ((0, 0), (2, 0)),
                       ((1, 0), (2, 0)), ((2, 0), (3, 0)), ((-1, 0),)):
            self.assertIsNone(best.number_of(laying), laying)
        self.assertEqual(best.number_of(((2, 0),)), 0)

    def test_the_empty_galley(self):
        best = Best(Galley(), Book(1, 1, wait=3))
        self.assertEqual((best.cost, best.count), (0, 1))
        self.assertEqual((best.nth(0), list(best.every_best()), best.number_of(())), ((), [()], 0))
        self.assertIsNone(best.number_of(((1, 0),)))
        with self.assertRaises(NoSuchNumber):
            best.nth(1)



# Its first line may end with a hyphen that fills it, or there is only one line.
EITHER_WAY = block(1, 0, 0, False, (2, ("joint", 3)), (3, ("end",)))


class ManyTest(unittest.TestCase):
    def test_a_million(self):
        galley = Galley([EITHER_WAY] * 20)
        best = Best(galley, Book(5, 2000))
        self.assertEqual((best.cost, best.count), (0, 2 ** 20))
        first = ((1, 0), (2, None)) + tuple((end, None) for end in range(3, 41))
        self.assertEqual(best.nth(0), first)
        self.assertEqual(list(itertools.islice(best.every_best(), 3)), [
            first, first[:38] + ((40, None),), first[:36] + ((38, None), (39, None), (40, None)),
        ])
        last = ((2, 0),) + tuple((end, None) for end in range(4, 41, 2))
        self.assertEqual((best.nth(2 ** 20 - 1), best.number_of(last)), (last, 2 ** 20 - 1))
        for number in (1, 2, 77777, 2 ** 19, 2 ** 20 - 2):
            laying = best.nth(number)
            self.assertEqual((cost_of(galley, Book(5, 2000), laying), best.number_of(laying)), (0, number))

    def test_figures_on_many_columns(self):
        # A figure and a line fill a column, and two lines do.
        figures = block(1, 0, 0, False, (1, ("end",), (), (1, 1, 1, 1)))
        galley = Galley([figures] + [block(1, 0, 0, False, (1, ("end",)))] * 39)
        best = Best(galley, Book(1, 2))
        told = list(best.every_best())
        self.assertGreater(best.count, 5000)
        self.assertEqual(len(told), best.count)
        keys = [[(end, -1 if count is None else count) for end, count in laying] for laying in told]
        self.assertEqual(keys, sorted(keys))
        for number in (0, 1, best.count // 2, best.count - 1):
            self.assertEqual((best.nth(number), best.number_of(told[number])), (told[number], number))

    def test_a_changed_galley(self):
        galley = Galley([block(1, 0, 0, False, (1, ("blank", 0)), (1, ("end",)))])
        book = Book(1, 2)
        best = Best(galley, book)
        told = list(best.every_best())
        generator = best.every_best()
        galley += Galley([block(1, 0, 0, False, (1, ("end",), (), (1,)))] * 3)
        self.assertEqual((best.cost, best.count), (0, 1))
        self.assertEqual((list(best.every_best()), list(generator)), (told, told))
        self.assertEqual((best.nth(0), best.number_of(told[0])), (told[0], 0))
        self.assertNotEqual(Best(galley, book).nth(), told[0])
        self.assertEqual(len(list(every_laying(galley, book))[0]), 5)


if __name__ == "__main__":
    unittest.main()
