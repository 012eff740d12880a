"""[64] and laidforall/fronts.py."""

import unittest

import samples
from test_families import random_family
from laidforall.books import Book
from laidforall.families import Family
from laidforall.fronts import Fronts
from laidforall.promises import first_breaking

PROMISES = (
    ("loose", 0), ("loose", 1), ("loose", 3), ("keep",), ("orphan",), ("widow",),
    ("empty", 0), ("empty", 1), ("empty", 3), ("fits",),
)


def random_book(rnd):
    return Book(
        rnd.randint(1, 6), rnd.randint(1, 4), joint=rnd.choice((0, 0, 1, 3, 6)),
        over=rnd.choice((0, 1, 5, 100)), keep=rnd.choice((0, 0, 2, 6)),
        orphan=rnd.choice((0, 0, 2, 6)), widow=rnd.choice((0, 0, 2, 6)),
    )


def length_of(telling):
    return sum(len(shapes) for _, shapes in telling)


def tellings(family, most):
    return [telling for length in range(1, most + 1) for telling in family.every_telling(length)]


def breaks(family, book, promise, telling):
    return first_breaking(family.galley_of(telling), book, promise) is not None


class FrontTest(unittest.TestCase):
    def test_fronts_follow_the_telling(self):
        rnd = samples.chance(64)
        for _ in range(15):
            family = random_family(rnd)
            fronts = Fronts(family, random_book(rnd), rnd.choice(PROMISES))
            for telling in tellings(family, 4):
                front = fronts.front_of(telling)
                self.assertIsInstance(front, tuple)
                self.assertEqual({front: 1}[fronts.front_of(telling)], 1)
                case, shapes = telling[-1]
                if len(shapes) > 1:
                    before = fronts.front_of(telling[:-1] + ((case, shapes[:-1]),))
                    self.assertEqual(front, fronts.more(case, before, shapes[-1]))
                elif len(telling) > 1:
                    before = fronts.front_of(telling[:-1])
                    self.assertEqual(front, fronts.behind(telling[-2][0], before, case, shapes[0]))
                else:
                    self.assertEqual(front, fronts.start(case, shapes[0]))

    def test_breaks_against_all_layings_of_the_telling(self):
        rnd = samples.chance(65)
        seen = set()
        for _ in range(120):
            family, book, promise = random_family(rnd), random_book(rnd), rnd.choice(PROMISES)
            fronts = Fronts(family, book, promise)
            for telling in tellings(family, 4):
                told = fronts.breaks(telling[-1][0], fronts.front_of(telling))
                self.assertIs(told, breaks(family, book, promise, telling))
                seen.add((promise[0], told))
        self.assertEqual(len(seen), 12)

    def test_each_cost_by_itself(self):
        rnd = samples.chance(66)
        for name in ("joint", "over", "keep", "orphan", "widow"):
            for value in (0, 1, 2, 6) + ((50, 100) if name == "over" else ()):
                family = random_family(rnd, 2, 2, 4)
                book = Book(rnd.randint(2, 6), rnd.randint(1, 4)).changed(**{name: value})
                for promise in PROMISES:
                    fronts = Fronts(family, book, promise)
                    for telling in tellings(family, 3):
                        told = fronts.breaks(telling[-1][0], fronts.front_of(telling))
                        self.assertIs(told, breaks(family, book, promise, telling))

    def test_long_tellings(self):
        rnd = samples.chance(67)
        for _ in range(60):
            family, book, promise = random_family(rnd), random_book(rnd), rnd.choice(PROMISES)
            fronts = Fronts(family, book, promise)
            telling = self.long_telling(rnd, family, rnd.randint(10, 30))
            told = fronts.breaks(telling[-1][0], fronts.front_of(telling))
            self.assertIs(told, breaks(family, book, promise, telling))

    def long_telling(self, rnd, family, length):
        case = rnd.choice(family.firsts)
        telling = [(case, (0,))]
        for _ in range(length - 1):
            last, shapes = telling[-1]
            if family.follows[last] and rnd.random() < 0.4:
                case = rnd.choice(family.follows[last])
                telling.append((case, (rnd.randrange(len(family.cases[case][6])),)))
            else:
                telling[-1] = (last, shapes + (rnd.randrange(len(family.cases[last][6])),))
        return tuple(telling)

    def test_equal_fronts_go_on_alike(self):
        rnd = samples.chance(68)
        met = 0
        for _ in range(25):
            family, book, promise = random_family(rnd), random_book(rnd), rnd.choice(PROMISES)
            fronts = Fronts(family, book, promise)
            groups = {}
            for telling in tellings(family, 4):
                pair = (telling[-1][0], fronts.front_of(telling))
                groups.setdefault(pair, []).append(telling)
            for (case, _), group in list(groups.items())[:40]:
                one, other = group[0], group[-1]
                met += one != other
                for first, second in zip(self.longer(family, case, one), self.longer(family, case, other)):
                    self.assertEqual(fronts.front_of(first), fronts.front_of(second))
                    self.assertEqual(breaks(family, book, promise, first), breaks(family, book, promise, second))
        self.assertGreater(met, 60)

    def longer(self, family, case, telling):
        """The telling itself, and with one and two further shapes or blocks."""
        found = [telling]
        for shape in range(len(family.cases[case][6])):
            longer = telling[:-1] + ((case, telling[-1][1] + (shape,)),)
            found.append(longer)
            for later in family.follows[case]:
                found.append(longer + ((later, (0,)),))
        for later in family.follows[case]:
            for shape in range(len(family.cases[later][6])):
                found.append(telling + ((later, (shape,)),))
        return found

    def test_promises_at_their_bounds(self):
        # One piece of width 2 and room 5: lines of two leave 1 free, and a last line nothing.
        family = Family(((1, 0, 0, True, 0, 0, ((2,),)),), (0,), ((0,),))
        book = Book(5, 2)
        three, two = ((0, (0, 0, 0)),), ((0, (0, 0)),)
        for promise, telling, told in (
                (("loose", 0), two, False), (("loose", 0), three, True), (("loose", 1), three, False),
                (("keep",), ((0, (0,)),) * 2, False), (("keep",), ((0, (0,)),) * 3, True),
                (("fits",), two, False), (("widow",), ((0, (0,) * 5),), True),
                (("orphan",), three, False), (("orphan",), ((0, (0,)), (0, (0,) * 3)), True)):
            fronts = Fronts(family, book, promise)
            self.assertIs(fronts.breaks(0, fronts.front_of(telling)), told, (promise, telling))
            self.assertIs(breaks(family, book, promise, telling), told)

    def test_the_family_may_be_used_again(self):
        cases = [(1, 0, 0, False, 0, 0, ((1,),))]
        family = Family(cases, [0], [[0]])
        fronts = Fronts(family, Book(2, 2), ("fits",))
        front = fronts.front_of(((0, (0, 0)),))
        cases.clear()
        self.assertEqual(fronts.front_of(((0, (0, 0)),)), front)


if __name__ == "__main__":
    unittest.main()
