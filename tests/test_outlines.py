"""[30], [31], [33] and laidforall/outlines.py."""

import unittest
from fractions import Fraction

import samples
from laidforall.errors import BadOutline
from laidforall.inks import Ink
from laidforall.outlines import check_outline, count_cells, inked, part_size, triangles_of

SQUARE = ((0, 0), (2, 0), (2, 2), (0, 2))

DIAMOND = ((3, 0), (6, 3), (3, 6), (0, 3))

# Its edges cross in the middle of it.
BOW = ((0, 0), (4, 4), (4, 0), (0, 4))

LOWER = ((0, 0), (1, 1), (0, 1))

UPPER = ((0, 0), (1, 0), (1, 1))

INNER = {
    "left": (Fraction(1, 7), Fraction(1, 2)),
    "right": (Fraction(6, 7), Fraction(1, 2)),
    "top": (Fraction(1, 2), Fraction(1, 7)),
    "bottom": (Fraction(1, 2), Fraction(6, 7)),
}


def is_covered(outline, size, x, y):
    """Count the edges that meet the line through a point to the right of it."""
    many = 0
    for ring in outline:
        for (left, high), (right, low) in zip(ring, ring[1:] + ring[:1]):
            left, high, right, low = left * size, high * size, right * size, low * size
            if high != low and min(high, low) < y < max(high, low):
                many += left + (y - high) * (right - left) / (low - high) > x
    return many % 2 == 1


def slow_ink(outline, size):
    half = Fraction(1, 2)
    return [(x, y) for x in range(-1, 12 * size + 1) for y in range(-1, 12 * size + 1)
            if is_covered(outline, size, x + half, y + half)]


def is_good(start, end):
    right, down = abs(start[0] - end[0]), abs(start[1] - end[1])
    return (right or down) and (not right or not down or right == down)


def random_ring(rnd, far):
    """A ring of random points, which may cross, touch and cover itself."""
    while True:
        ring = [(rnd.randint(0, far), rnd.randint(0, far))]
        for _ in range(rnd.randint(2, 6)):
            points = [(x, y) for x in range(far + 1) for y in range(far + 1)
                      if is_good(ring[-1], (x, y))]
            ring.append(rnd.choice(points))
        if is_good(ring[-1], ring[0]):
            return tuple(ring)


def random_outline(rnd, far=5):
    return tuple(random_ring(rnd, far) for _ in range(rnd.randint(0, 3)))


class CheckTest(unittest.TestCase):
    def assert_bad(self, outline, ring, point):
        with self.assertRaises(BadOutline) as caught:
            check_outline(outline)
        self.assertEqual((caught.exception.ring, caught.exception.point), (ring, point))

    def test_good_ones(self):
        for outline in ((), (SQUARE,), (DIAMOND, BOW), (SQUARE, SQUARE, LOWER, UPPER)):
            self.assertIsNone(check_outline(outline))
        self.assertIsNone(check_outline((((0, 0), (12, 12), (0, 0), (12, 0)),)))

    def test_bad_ones(self):
        self.assert_bad((((0, 0), (1, 2), (0, 2)),), 0, 0)
        self.assert_bad((((0, 0), (1, 0), (3, 1)),), 0, 1)
        self.assert_bad((((0, 0), (2, 0), (2, 1)),), 0, 2)
        self.assert_bad((((0, 0), (0, 0), (1, 1)),), 0, 0)
        self.assert_bad((((0, 0), (1, 1), (1, 1)),), 0, 1)
        self.assert_bad((((0, 0), (1, 1), (0, 0)),), 0, 2)
        self.assert_bad((SQUARE, DIAMOND, ((0, 0), (4, 0), (2, 1)), ((0, 0), (0, 0), (0, 0))), 2, 1)
        self.assert_bad((((12, 0), (0, 11), (12, 11)),), 0, 0)

    def test_first_of_several(self):
        bad = ((0, 0), (1, 2), (0, 2), (1, 0))
        self.assert_bad((SQUARE, bad, bad), 1, 0)
        self.assert_bad((bad[2:] + bad[:2],), 0, 0)


class InkedTest(unittest.TestCase):
    def test_small_ones(self):
        self.assertEqual(inked((), 3), Ink())
        self.assertEqual(list(inked((SQUARE,), 1)), [(0, 0, 2), (1, 0, 2)])
        self.assertEqual(len(inked((SQUARE,), 12)), 24 * 24)
        self.assertEqual(list(inked((LOWER,), 1)), [])
        self.assertEqual(list(inked((UPPER,), 1)), [(0, 0, 1)])
        self.assertEqual(list(inked((LOWER,), 2)), [(1, 0, 1)])

    def test_one_part_of_a_divided_rectangle(self):
        for size in range(1, 13):
            lower, upper = inked((LOWER,), size), inked((UPPER,), size)
            self.assertEqual(lower & upper, Ink())
            self.assertEqual(lower | upper, Ink.of_runs([(y, 0, size) for y in range(size)]))

    def test_held_against_counting(self):
        outlines = [(SQUARE,), (DIAMOND,), (BOW,), (SQUARE, DIAMOND, BOW), (SQUARE, SQUARE),
                    (((0, 0), (3, 0), (3, 3), (0, 3)), ((1, 1), (2, 1), (2, 2), (1, 2)))]
        outlines += [random_outline(samples.chance(seed)) for seed in range(40)]
        for outline in outlines:
            for size in (1, 2, 3, 4):
                self.assertEqual(inked(outline, size), Ink(slow_ink(outline, size)), outline)

    def test_a_large_one(self):
        outline = (((0, 12), (12, 0), (12, 12)), ((0, 0), (12, 12), (12, 0)))
        self.assertEqual(inked(outline, 5), Ink(slow_ink(outline, 5)))
        self.assertEqual(len(inked(outline, 12)), count_cells(outline, 12))


class TrianglesTest(unittest.TestCase):
    def test_small_ones(self):
        self.assertEqual(triangles_of(()), [])
        self.assertEqual(triangles_of((LOWER,)), [(0, 0, "bottom"), (0, 0, "left")])
        self.assertEqual(triangles_of((UPPER,)), [(0, 0, "right"), (0, 0, "top")])
        self.assertEqual(triangles_of((SQUARE, SQUARE)), [])
        self.assertEqual(
            triangles_of((((1, 2), (2, 2), (2, 3), (1, 3)),)),
            [(1, 2, "bottom"), (1, 2, "left"), (1, 2, "right"), (1, 2, "top")],
        )

    def test_held_against_points_in_them(self):
        for seed in range(60):
            outline = random_outline(samples.chance(seed))
            told = sorted(
                (i, j, side) for i in range(6) for j in range(6) for side, (x, y) in INNER.items()
                if is_covered(outline, 1, i + x, j + y)
            )
            self.assertEqual(triangles_of(outline), told)
            triangles_of(outline).clear()
            self.assertEqual(triangles_of(outline), told)


class CountTest(unittest.TestCase):
    def test_held_against_inked(self):
        for seed in range(40):
            outline = random_outline(samples.chance(seed))
            for size in range(1, 13):
                self.assertEqual(count_cells(outline, size), len(inked(outline, size)))

    def test_large_sizes(self):
        far = 10 ** 12
        self.assertEqual(count_cells((), far), 0)
        self.assertEqual(count_cells((SQUARE,), far), 4 * far * far)
        self.assertEqual(count_cells((LOWER,), far), far * (far - 1) // 2)
        self.assertEqual(count_cells((UPPER,), far), far * (far + 1) // 2)
        for size in (far, far - 1):
            for seed in range(25):
                outline = random_outline(samples.chance(seed))
                self.assertEqual(count_cells(outline, size), self.continued(outline, size))

    def continued(self, outline, size):
        """The number at a large size: for each parity it is a polynomial of degree 2."""
        known = [6, 8, 10] if size % 2 == 0 else [5, 7, 9]
        total = Fraction(0)
        for one in known:
            part = Fraction(len(inked(outline, one)))
            for other in known:
                if other != one:
                    part *= Fraction(size - other, one - other)
            total += part
        return total


class PartTest(unittest.TestCase):
    def test_alike(self):
        self.assertIsNone(part_size((), ()))
        self.assertIsNone(part_size((SQUARE,), (SQUARE[2:] + SQUARE[:2],)))
        self.assertIsNone(part_size((SQUARE, SQUARE), ()))
        self.assertIsNone(part_size((LOWER, UPPER), (((0, 0), (1, 0), (1, 1), (0, 1)),)))

    def test_parting(self):
        self.assertEqual(part_size((SQUARE,), ()), 1)
        self.assertEqual(part_size((UPPER,), ()), 1)
        self.assertEqual(part_size((), (LOWER,)), 2)
        self.assertEqual(part_size((SQUARE, LOWER), (SQUARE,)), 2)

    def test_random_outlines(self):
        for seed in range(200):
            rnd = samples.chance(seed)
            first, second = random_outline(rnd, 2), random_outline(rnd, 2)
            told = [size for size in range(1, 13) if inked(first, size) != inked(second, size)]
            self.assertEqual(part_size(first, second), min(told, default=None))


if __name__ == "__main__":
    unittest.main()
