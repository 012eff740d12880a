"""[32] and laidforall/inks.py."""

import unittest

import samples
from laidforall.inks import Ink


def cells_of(runs):
    return {(x, y) for y, start, end in runs for x in range(start, end)}


def runs_of(cells):
    """The runs of a set of cells, found cell by cell."""
    found = []
    for x, y in sorted(cells, key=lambda cell: (cell[1], cell[0])):
        if (x - 1, y) not in cells:
            end = x
            while (end, y) in cells:
                end += 1
            found.append((y, x, end))
    return found


def some_cells(rnd):
    return [(rnd.randint(-4, 4), rnd.randint(-2, 2)) for _ in range(rnd.choice((0, 1, 3, 12, 30)))]


class InkTest(unittest.TestCase):
    def assert_ink(self, ink, cells):
        self.assertEqual(list(ink), runs_of(cells))
        self.assertEqual(len(ink), len(cells))
        for x in range(-10, 11):
            for y in range(-6, 7):
                self.assertIs((x, y) in ink, (x, y) in cells)

    def test_cells_in_any_order(self):
        self.assert_ink(Ink(), set())
        self.assert_ink(Ink([]), set())
        self.assert_ink(Ink([(2, 1), (0, 1), (1, 1), (1, 0), (2, 1)]), {(0, 1), (1, 1), (2, 1), (1, 0)})
        self.assertEqual(list(Ink([(-1, -1), (0, -1), (2, -1), (-1, -2)])),
                         [(-2, -1, 0), (-1, -1, 1), (-1, 2, 3)])

    def test_random_inks(self):
        for seed in range(150):
            rnd = samples.chance(seed)
            first, second = some_cells(rnd), some_cells(rnd)
            one, two = Ink(first), Ink(second)
            self.assert_ink(one, set(first))
            self.assert_ink(one | two, set(first) | set(second))
            self.assert_ink(one & two, set(first) & set(second))
            self.assert_ink(one - two, set(first) - set(second))
            self.assert_ink(one ^ two, set(first) ^ set(second))
            self.assertIs(one == two, set(first) == set(second))
            self.assert_ink(one.shifted(3, -2), {(x + 3, y - 2) for x, y in first})
            self.assert_ink(one, set(first))
            self.assert_ink(two, set(second))

    def test_runs_that_overlap_and_touch(self):
        self.assertEqual(list(Ink.of_runs([(0, 3, 5), (0, 1, 3), (0, 5, 6)])), [(0, 1, 6)])
        self.assertEqual(list(Ink.of_runs([(0, 0, 9), (0, 2, 4), (0, 8, 10)])), [(0, 0, 10)])
        self.assertEqual(list(Ink.of_runs([(1, 0, 1), (0, 1, 2), (0, 1, 2)])), [(0, 1, 2), (1, 0, 1)])
        self.assertEqual(list(Ink.of_runs([(0, 0, 1), (1, 1, 2)])), [(0, 0, 1), (1, 1, 2)])
        self.assertEqual(list(Ink.of_runs([])), [])
        for seed in range(100):
            rnd = samples.chance(seed)
            runs = []
            for _ in range(rnd.randint(0, 8)):
                start = rnd.randint(-6, 4)
                runs.append((rnd.randint(-1, 1), start, start + rnd.randint(1, 5)))
            self.assert_ink(Ink.of_runs(runs), cells_of(runs))

    def test_touching_parts_become_one_run(self):
        left, right = Ink.of_runs([(0, 0, 3)]), Ink.of_runs([(0, 3, 5)])
        self.assertEqual(list(left | right), [(0, 0, 5)])
        self.assertEqual(list(left ^ right), [(0, 0, 5)])
        self.assertEqual(list(left & right), [])
        self.assertEqual(list(left | Ink.of_runs([(0, 2, 4)])), [(0, 0, 4)])

    def test_equal(self):
        self.assertEqual(Ink([(0, 0), (1, 0)]), Ink.of_runs([(0, 0, 2)]))
        self.assertEqual(Ink(), Ink.of_runs([]))
        self.assertFalse(Ink([(0, 0)]) == Ink([(0, 1)]))
        self.assertFalse(Ink() == [])
        self.assertTrue(Ink() != [])
        self.assertTrue(Ink([(0, 0)]) != Ink())

    def test_long_runs(self):
        far = 10 ** 9
        ink = Ink.of_runs([(0, -far, far), (5, 0, far)])
        self.assertEqual(len(ink), 3 * far)
        self.assertEqual(len(ink - Ink([(0, 0)])), 3 * far - 1)
        self.assertIn((far - 1, 0), ink)
        self.assertNotIn((far, 0), ink)
        self.assertNotIn((-1, 5), ink)
        self.assertEqual(ink.shifted(far, 1), Ink.of_runs([(6, far, 2 * far), (1, 0, 2 * far)]))

    def test_no_other_kind(self):
        for action in (lambda ink: ink | [], lambda ink: ink & [], lambda ink: ink - [],
                       lambda ink: ink ^ []):
            with self.assertRaises(TypeError):
                action(Ink([(0, 0)]))

    def test_what_is_passed_is_copied(self):
        cells = [(0, 0), (5, 5), (0, 0)]
        ink = Ink(cells)
        self.assertEqual(cells, [(0, 0), (5, 5), (0, 0)])
        cells.clear()
        self.assertEqual(len(ink), 2)
        runs = [(1, 4, 5), (0, 0, 2)]
        ink = Ink.of_runs(runs)
        self.assertEqual(runs, [(1, 4, 5), (0, 0, 2)])
        runs.clear()
        told = list(ink)
        told.clear()
        self.assertEqual(list(ink), [(0, 0, 2), (1, 4, 5)])


if __name__ == "__main__":
    unittest.main()
