"""[65] to [67] and laidforall/verdicts.py."""

import unittest

import samples
from test_families import random_family
from test_fronts import PROMISES, breaks, length_of, random_book, tellings
from laidforall.books import Book
from laidforall.families import Family
from laidforall.fronts import Fronts
from laidforall.numbering import Best
from laidforall.promises import first_breaking
from laidforall.verdicts import Broken, Kept, Verdict, compare_books, is_closed, judge

# Two words of two syllables each; all lines are full or last.
STEADY = Family(((1, 0, 0, False, 1, 0, ((2, 2),)),), (0,), ((0,),))


class JudgeTest(unittest.TestCase):
    def test_against_all_short_tellings(self):
        rnd = samples.chance(165)
        seen = set()
        for _ in range(120):
            family, book, promise = random_family(rnd), random_book(rnd), rnd.choice(PROMISES)
            verdict = judge(family, book, promise)
            wrong = [telling for telling in tellings(family, 4) if breaks(family, book, promise, telling)]
            self.assertIsInstance(verdict, Verdict)
            if verdict:
                self.assertIsInstance(verdict, Kept)
                self.assertEqual(wrong, [])
            else:
                self.assert_broken(verdict, family, book, promise, wrong)
            seen.add((promise[0], bool(verdict)))
        self.assertGreater(len(seen), 9)

    def assert_broken(self, verdict, family, book, promise, wrong):
        self.assertIsInstance(verdict, Broken)
        length = length_of(verdict.telling)
        if wrong:
            self.assertEqual(length, length_of(wrong[0]))
            self.assertIn(verdict.telling, wrong)
        else:
            self.assertGreater(length, 4)
        galley = family.galley_of(verdict.telling)
        self.assertIsNotNone(verdict.laying)
        self.assertEqual(verdict.laying, first_breaking(galley, book, promise))

    def test_a_broken_telling_of_some_length(self):
        # Five lines of one shape each are needed for a column that is short by one line of four.
        family = Family(((1, 0, 0, False, 0, 0, ((5,),)), (4, 0, 0, False, 0, 0, ((1,),))), (0,), ((1,), ()))
        verdict = judge(family, Book(5, 4), ("empty", 0))
        self.assertEqual((verdict.telling, bool(verdict)), (((0, (0,)), (1, (0,))), False))
        alone = Family(family.cases, (0,), ((), ()))
        self.assertTrue(judge(alone, Book(5, 4), ("empty", 0)))
        self.assertEqual(judge(alone, Book(5, 4), ("widow",)).telling, ((0, (0,) * 5),))
        self.assertEqual(judge(alone, Book(5, 4), ("widow",)).laying,
                         ((1, 0), (2, None), (3, None), (4, None), (5, 0)))

    def test_bounds_of_promises(self):
        family = Family(((1, 0, 0, False, 0, 0, ((2,),)),), (0,), ((0,),))
        self.assertFalse(judge(family, Book(5, 4), ("loose", 0)))
        self.assertTrue(judge(family, Book(5, 4), ("loose", 1)))
        self.assertTrue(judge(family, Book(5, 1), ("empty", 0)))
        self.assertTrue(judge(family, Book(2, 1), ("fits",)))
        self.assertFalse(judge(family, Book(1, 1), ("fits",)))

    def test_kept_copies_its_table(self):
        table = [(0, ())]
        kept = Kept(table)
        table.clear()
        self.assertEqual(kept.table, [(0, ())])

    def test_truth(self):
        self.assertIs(bool(Kept([])), True)
        self.assertIs(bool(Broken((), ())), False)
        for kind in (Kept, Broken):
            self.assertIn("__bool__", vars(kind))
            self.assertEqual(kind.__bases__, (Verdict,))
        broken = Broken(((0, (0,)),), ((1, 0),))
        self.assertEqual((broken.telling, broken.laying), (((0, (0,)),), ((1, 0),)))

    def test_a_large_family(self):
        rnd = samples.chance(166)
        shapes = tuple(tuple(rnd.randint(3, 9) for _ in range(3)) for _ in range(3))
        cases = tuple((rnd.randint(1, 3), rnd.randint(0, 9), rnd.randint(0, 2), at > 8, 1, 1, shapes)
                      for at in range(12))
        every = tuple(range(12))
        family = Family(cases, every, (every,) * 12)
        verdict = judge(family, Book(6, 4, joint=1, keep=6, orphan=3, widow=3), ("empty", 4))
        self.assertTrue(verdict)
        self.assertEqual(len(verdict.table), len(set(verdict.table)))
        self.assertTrue(is_closed(family, Book(6, 4, joint=1, keep=6, orphan=3, widow=3), ("empty", 4), verdict.table))


    def test_a_promise_that_is_kept_by_far(self):
        # Ever so many choices are about as good, but none of them leaves five units free.
        family = Family(((1, 0, 0, True, 0, 0, ((1,), (2,), (1, 2, 1))),), (0,), ((0,),))
        book = Book(6, 4, joint=1, keep=2, orphan=3, widow=4)
        verdict = judge(family, book, ("loose", 4))
        self.assertTrue(verdict)
        self.assertLess(len(verdict.table), 1000)
        self.assertTrue(is_closed(family, book, ("loose", 4), verdict.table))
        for promise in (("loose", 1), ("empty", 1), ("orphan",), ("widow",), ("keep",)):
            verdict = judge(family, book, promise)
            self.assertFalse(verdict)
            self.assertIsNotNone(verdict.laying)
            for shorter in tellings(family, min(4, length_of(verdict.telling) - 1)):
                self.assertFalse(breaks(family, book, promise, shorter))


class TableTest(unittest.TestCase):
    def test_tables_hold_all_pairs_and_no_others(self):
        rnd = samples.chance(167)
        many = 0
        while many < 25:
            family, book, promise = random_family(rnd), random_book(rnd), rnd.choice(PROMISES)
            verdict = judge(family, book, promise)
            if not verdict or len(verdict.table) > 60:
                continue
            many += 1
            fronts = Fronts(family, book, promise)
            table = verdict.table
            self.assertEqual(len(table), len(set(table)))
            told = {(telling[-1][0], fronts.front_of(telling)) for telling in tellings(family, 4)}
            self.assertLessEqual(told, set(table))
            self.assertEqual(self.reached(family, fronts), set(table))
            self.assertTrue(is_closed(family, book, promise, table))
            self.assertTrue(is_closed(family, book, promise, list(reversed(table)) + table))
            for pair in table:
                self.assertFalse(is_closed(family, book, promise, [other for other in table if other != pair]))

    def reached(self, family, fronts):
        found = {(case, fronts.start(case, shape)) for case in family.firsts
                 for shape in range(len(family.cases[case][6]))}
        while True:
            more = {(case, fronts.more(case, front, shape)) for case, front in found
                    for shape in range(len(family.cases[case][6]))}
            more |= {(later, fronts.behind(case, front, later, shape)) for case, front in found
                     for later in family.follows[case] for shape in range(len(family.cases[later][6]))}
            if more <= found:
                return found
            found |= more

    def test_tables_with_broken_pairs(self):
        family = Family(((1, 0, 0, False, 0, 0, ((2,),)),), (0,), ((0,),))
        book = Book(5, 4)
        fronts = Fronts(family, book, ("loose", 0))
        table = list(self.reached(family, fronts))
        self.assertFalse(is_closed(family, book, ("loose", 0), table))
        self.assertFalse(is_closed(family, book, ("loose", 0), []))
        good = judge(family, book, ("loose", 1)).table
        self.assertTrue(is_closed(family, book, ("loose", 1), good))


class CompareTest(unittest.TestCase):
    def differ(self, family, first, second, telling):
        galley = family.galley_of(telling)
        one, two = Best(galley, first), Best(galley, second)
        if max(one.count, two.count) > 2000:
            return False
        return list(one.every_best()) != list(two.every_best())

    def test_against_all_short_tellings(self):
        rnd = samples.chance(169)
        answers = []
        for _ in range(150):
            family, first = random_family(rnd), random_book(rnd)
            second = random_book(rnd)
            if rnd.random() < 0.7:
                name = rnd.choice(("joint", "over", "keep", "orphan", "widow", "room", "height"))
                second = first.changed(**{name: rnd.randint(1, 4)})
            found = compare_books(family, first, second)
            wrong = next((telling for telling in tellings(family, 3 if found is None else 4)
                          if self.differ(family, first, second, telling)), None)
            if found is None:
                self.assertIsNone(wrong)
                answers.append(0)
                continue
            telling, laying = found
            answers.append(length_of(telling))
            galley = family.galley_of(telling)
            numbers = [Best(galley, book).number_of(laying) for book in (first, second)]
            self.assertEqual(numbers.count(None), 1)
            self.assertTrue(wrong is None and length_of(telling) > 4 or length_of(wrong) == length_of(telling))
        self.assertTrue({0, 1, 2, 3, 4} <= set(answers))

    def test_equal_books(self):
        book = Book(5, 3, joint=2, keep=3)
        self.assertIsNone(compare_books(STEADY, book, Book(5, 3, joint=2, keep=3)))
        for told in ({"wait": 5}, {"columns": 2}, {"gutter": 9}, {"full": True}):
            self.assertIsNone(compare_books(STEADY, book, book.changed(**told)))

    def test_costs_that_no_laying_can_avoid(self):
        rnd = samples.chance(168)
        shapes = [tuple(tuple(rnd.randint(1, 9) for _ in range(3)) for _ in range(3)) for _ in range(12)]
        cases = tuple((rnd.randint(1, 2), 0, 0, False, 1, 0, shapes[at]) for at in range(12))
        every = tuple(range(12))
        family = Family(cases, every, (every,) * 12)
        book = Book(6, 4, joint=2, orphan=3, widow=1, over=50)
        # Each word that is too wide stands alone, with whatever else.
        self.assertIsNone(compare_books(family, book, book.changed(over=2)))
        self.assertIsNone(compare_books(family, book, book.changed(keep=6)))
        self.assertIsNotNone(compare_books(family, book, book.changed(orphan=0)))

    def test_short_and_longer_tellings(self):
        # With the other shape first, one room holds a word whole and the other one does not.
        family = Family(((1, 0, 0, False, 1, 0, ((2,), (3, 2))),), (0,), ((),))
        self.assertEqual(length_of(compare_books(family, Book(6, 4), Book(5, 4))[0]), 2)
        telling, laying = compare_books(family, Book(6, 4, joint=0), Book(6, 4, joint=6))
        self.assertEqual(length_of(telling), 4)
        galley = family.galley_of(telling)
        both = {Best(galley, Book(6, 4, joint=cost)).number_of(laying) is None for cost in (0, 6)}
        self.assertEqual(both, {False, True})
        lines = Family(((1, 0, 0, False, 0, 0, ((5,),)),), (0,), ((),))
        telling, laying = compare_books(lines, Book(5, 4), Book(5, 3))
        self.assertEqual(telling, ((0, (0,) * 4),))
        telling, laying = compare_books(lines, Book(5, 3, widow=0), Book(5, 3, widow=6))
        self.assertEqual(telling, ((0, (0,) * 4),))

    def test_a_laying_that_only_one_book_allows(self):
        family = Family(((1, 0, 0, False, 0, 0, ((3,),)),), (0,), ((),))
        telling, laying = compare_books(family, Book(3, 2), Book(6, 2))
        self.assertEqual(telling, ((0, (0, 0)),))
        self.assertIn(laying, (((1, 0), (2, None)), ((2, 0),)))


if __name__ == "__main__":
    unittest.main()
