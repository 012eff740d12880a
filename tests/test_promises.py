"""[60] and laidforall/promises.py."""

import unittest

import layouts
import samples
from layouts import block
from test_layings import cases
from laidforall.books import Book
from laidforall.errors import BadLaying
from laidforall.galleys import Galley
from laidforall.layings import every_laying
from laidforall.numbering import Best
from laidforall.promises import broken_at, first_breaking

PROMISES = (
    ("loose", 0), ("loose", 1), ("loose", 3), ("keep",), ("orphan",), ("widow",),
    ("empty", 0), ("empty", 1), ("empty", 2), ("fits",),
)


class SearchTest(unittest.TestCase):
    def test_broken_at(self):
        seen = set()
        for blocks, galley, book in cases(160, 60):
            for laying in every_laying(galley, book):
                page = layouts.Page(blocks, book, laying)
                for promise in PROMISES:
                    step = page.broken_at(promise)
                    self.assertEqual(broken_at(galley, book, laying, promise), step)
                    seen.add((promise[0], step is None))
        self.assertEqual(len(seen), 12)

    def test_first_breaking(self):
        seen = set()
        for blocks, galley, book in cases(161, 150):
            best = list(Best(galley, book).every_best())
            for promise in PROMISES:
                told = [laying for laying in best
                        if layouts.Page(blocks, book, laying).broken_at(promise) is not None]
                found = first_breaking(galley, book, promise)
                self.assertEqual(found, told[0] if told else None)
                seen.add((promise[0], found is None, found == best[0]))
        # There are breaking ones that are not the first best one, too.
        self.assertIn(("widow", False, False), seen)
        self.assertEqual(len({told[:2] for told in seen}), 12)


class BoundTest(unittest.TestCase):
    def setUp(self):
        self.galley = Galley([
            block(1, 0, 0, True, (3, ("blank", 1)), (2, ("blank", 1)), (2, ("end",))),
            block(1, 0, 0, False, (9, ("end",))),
        ])
        self.book = Book(5, 4)

    def assert_broken(self, laying, told):
        for promise, step in told:
            self.assertEqual(broken_at(self.galley, self.book, laying, promise), step, promise)

    def test_bounds(self):
        steady = ((1, 0), (2, None), (3, None), (4, None))
        self.assert_broken(steady, [
            (("loose", 1), 0), (("loose", 2), 1), (("loose", 3), None), (("fits",), 3), (("keep",), None),
            (("orphan",), None), (("widow",), None), (("empty", 0), None),
        ])
        jumping = ((1, 0), (2, 0), (3, 0), (4, 0))
        self.assert_broken(jumping, [
            (("keep",), 3), (("orphan",), 1), (("widow",), 2), (("empty", 2), 1), (("empty", 3), None),
        ])
        later = ((1, 0), (2, None), (3, None), (4, 0))
        self.assert_broken(later, [
            (("empty", 0), 3), (("empty", 1), None), (("keep",), 3), (("widow",), None), (("orphan",), None),
        ])

    def test_lines_that_do_not_fit(self):
        high = Galley([block(2, 0, 0, False, (1, ("end",))), block(5, 0, 0, False, (1, ("end",)))])
        laying = ((1, 0), (2, 0))
        for height, step in ((4, 1), (5, None)):
            self.assertEqual(broken_at(high, Book(5, height), laying, ("fits",)), step)
        wide = Galley([block(1, 1, 0, False, (5, ("joint", 1)), (6, ("end",)))])
        for room, step in ((5, 0), (6, 0), (7, None)):
            self.assertEqual(broken_at(wide, Book(room, 4), ((1, 0), (2, None)), ("fits",)), step)

    def test_a_figure_higher_than_the_book_is_no_line(self):
        galley = Galley([block(1, 0, 0, False, (1, ("end",), (), (9,)))])
        self.assertIsNone(first_breaking(galley, Book(1, 1), ("fits",)))

    def test_wrong_layings(self):
        for laying, step in (((), 0), (((1, 0),), 1), (((1, None),), 0), (((1, 0), (9, 0)), 1),
                             (((1, 0), (3, 0), (4, 0), (5, 0)), 3)):
            for promise in PROMISES:
                with self.assertRaises(BadLaying) as caught:
                    broken_at(self.galley, self.book, laying, promise)
                self.assertEqual(caught.exception.step, step)

    def test_the_empty_galley(self):
        for promise in PROMISES:
            self.assertIsNone(broken_at(Galley(), self.book, (), promise))
            self.assertIsNone(first_breaking(Galley(), self.book, promise))

    def test_very_many_best_layings(self):
        either = block(1, 0, 0, False, (2, ("joint", 3)), (3, ("end",)))
        galley = Galley([either] * 20)
        self.assertIsNone(first_breaking(galley, Book(5, 2000), ("loose", 0)))
        book = Book(5, 21)
        found = first_breaking(galley, book, ("empty", 0))
        self.assertIsNone(found)
        self.assertEqual(first_breaking(galley, book, ("orphan",)),
                         self.search(galley, book, ("orphan",)))

    def search(self, galley, book, promise):
        for laying in Best(galley, book).every_best():
            if broken_at(galley, book, laying, promise) is not None:
                return laying
        return None


if __name__ == "__main__":
    unittest.main()
