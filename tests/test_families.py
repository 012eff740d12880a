"""[61], [62] and laidforall/families.py."""

import itertools
import unittest

import samples
from laidforall.families import Family
from laidforall.galleys import Galley

CASES = (
    (1, 2, 0, False, 3, 4, ((1, 2), (5,))),
    (2, 0, 1, True, 0, 1, ((7,),)),
)

HALVES = Family(CASES, (1, 0), ((1,), (0, 1)))


def random_family(rnd, most_cases=2, most_shapes=2, most_width=9):
    """A random family and whether its numbers are small is by chance, too."""
    many = rnd.randint(1, most_cases)
    cases = []
    for _ in range(many):
        wide = rnd.choice((2, 4, most_width))
        shapes = tuple(tuple(rnd.randint(1, wide) for _ in range(rnd.randint(1, 3)))
                       for _ in range(rnd.randint(1, most_shapes)))
        cases.append((rnd.randint(1, rnd.choice((2, 5))), rnd.randint(0, 3), rnd.randint(0, 2),
                      rnd.random() < 0.5, rnd.randint(0, 2), rnd.randint(0, 3), shapes))
    firsts = tuple(rnd.sample(range(many), rnd.randint(1, many)))
    follows = tuple(tuple(rnd.sample(range(many), rnd.randint(0, many))) for _ in range(many))
    return Family(tuple(cases), firsts, follows)


def searched_tellings(family, length):
    """All tellings of a length: cut all sequences of (case, shape) into blocks in all ways."""
    items = [(case, shape) for case in range(len(family.cases)) for shape in range(len(family.cases[case][6]))]
    found = set()
    for chosen in itertools.product(items, repeat=length):
        for cuts in itertools.product((False, True), repeat=length - 1):
            blocks = [[chosen[0]]]
            for is_cut, item in zip(cuts, chosen[1:]):
                if is_cut:
                    blocks.append([])
                blocks[-1].append(item)
            if all(len({case for case, _ in block}) == 1 for block in blocks):
                order = [block[0][0] for block in blocks]
                if order[0] in family.firsts and all(
                        two in family.follows[one] for one, two in zip(order, order[1:])):
                    found.add(tuple((block[0][0], tuple(shape for _, shape in block)) for block in blocks))
    return sorted(found)


class FamilyTest(unittest.TestCase):
    def test_fields(self):
        self.assertEqual((HALVES.cases, HALVES.firsts, HALVES.follows), (CASES, (1, 0), ((1,), (0, 1))))

    def test_what_is_passed_is_copied(self):
        cases, firsts, follows = list(CASES), [0], [[1], [0]]
        family = Family(cases, firsts, follows)
        cases.pop()
        firsts.append(1)
        follows[0].append(0)
        self.assertEqual((family.cases, family.firsts, family.follows), (CASES, (0,), ((1,), (0,))))

    def test_galleys(self):
        galley = HALVES.galley_of(((0, (0, 1, 0)), (1, (0,))))
        joint, blank = ("joint", 4), ("blank", 3)
        self.assertEqual(list(galley), [
            (1, 2, 0, False, (
                (1, joint, (), ()), (2, blank, (), ()), (5, blank, (), ()),
                (1, joint, (), ()), (2, ("end",), (), ()))),
            (2, 0, 1, True, ((7, ("end",), (), ()),)),
        ])
        self.assertIsInstance(galley, Galley)
        self.assertEqual((galley.figures, galley.block_at(5)), ([], (1, 5, 6)))

    def test_more_pieces_than_other_galleys_have(self):
        for many in (20, 21, 300):
            galley = HALVES.galley_of(((0, (0,) * many),))
            self.assertEqual(len(galley), 2 * many)
            self.assertEqual(len(galley.pieces), 2 * many)
            self.assertEqual(galley.block_at(2 * many - 1), (0, 0, 2 * many))
        galley = HALVES.galley_of(((1, (0,)),) * 50)
        self.assertEqual((len(galley), len(list(galley)), galley.block_at(49)), (50, 50, (49, 49, 50)))

    def test_tellings_of_length_1_and_2(self):
        self.assertEqual(list(HALVES.every_telling(1)), [((0, (0,)),), ((0, (1,)),), ((1, (0,)),)])
        self.assertEqual(list(HALVES.every_telling(2)), [
            ((0, (0,)), (1, (0,))), ((0, (0, 0)),), ((0, (0, 1)),),
            ((0, (1,)), (1, (0,))), ((0, (1, 0)),), ((0, (1, 1)),),
            ((1, (0,)), (0, (0,))), ((1, (0,)), (0, (1,))), ((1, (0,)), (1, (0,))), ((1, (0, 0)),),
        ])
        none = Family(CASES, (1,), ((), ()))
        self.assertEqual(list(none.every_telling(3)), [((1, (0, 0, 0)),)])

    def test_against_all_sequences(self):
        rnd = samples.chance(62)
        for _ in range(40):
            family = random_family(rnd, 3)
            for length in range(1, 5):
                told = list(family.every_telling(length))
                self.assertEqual(told, searched_tellings(family, length))

    def test_the_first_few_at_once(self):
        case = (1, 0, 0, False, 0, 0, ((1,), (2,), (3,)))
        every = tuple(range(12))
        family = Family((case,) * 12, every, (every,) * 12)
        first = next(iter(family.every_telling(5)))
        self.assertEqual(first, ((0, (0,)),) * 5)


if __name__ == "__main__":
    unittest.main()
