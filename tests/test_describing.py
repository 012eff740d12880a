"""[78], [79] and laidforall/describing.py."""

import unittest

import pages
import samples
from laidforall.describing import describe, read_description
from laidforall.errors import BadLine
from laidforall.faces import Face
from laidforall.placing import placed_signs, plate_of

FACES = [Face("a", 1, 1, [("a", 2, ()), ("b", 3, ())]), Face("b", 2, 1, [("a", 1, ())]), Face("c", 1, 1, [])]


class DescribeTest(unittest.TestCase):
    def test_one_run(self):
        plate = [(1, 0, 0, 0, 1, "a"), (1, 0, 2, 0, 1, "b"), (1, 0, 5, 0, 1, "c")]
        self.assertEqual(describe(plate, FACES), ["page 1", "face 0 size 1", "at 0 0 abc"])

    def test_sizes_lead_further(self):
        plate = [(1, 0, 4, 0, 3, "a"), (1, 0, 10, 0, 3, "b")]
        self.assertEqual(describe(plate, FACES), ["page 1", "face 0 size 3", "at 4 0 ab"])

    def test_signs_that_are_not_led_to(self):
        for other in ((1, 0, 3, 0, 1, "b"), (1, 0, 1, 0, 1, "b"), (1, 1, 2, 0, 1, "b")):
            lines = describe([(1, 0, 0, 0, 1, "a"), other], FACES)
            self.assertEqual(lines, ["page 1", "face 0 size 1", "at 0 0 a", f"at {other[2]} {other[1]} b"])

    def test_other_faces_sizes_and_pages(self):
        first = (1, 0, 0, 0, 1, "a")
        self.assertEqual(describe([first, (1, 0, 2, 1, 1, "b")], FACES),
                         ["page 1", "face 0 size 1", "at 0 0 a", "face 1 size 1", "at 2 0 b"])
        self.assertEqual(describe([first, (1, 0, 2, 0, 2, "b")], FACES),
                         ["page 1", "face 0 size 1", "at 0 0 a", "face 0 size 2", "at 2 0 b"])
        self.assertEqual(describe([first, (12, 0, 2, 0, 1, "b")], FACES),
                         ["page 1", "face 0 size 1", "at 0 0 a", "page 12", "at 2 0 b"])
        self.assertEqual(describe([first, (2, 7, 2, 2, 3, "b")], FACES),
                         ["page 1", "face 0 size 1", "at 0 0 a", "page 2", "face 2 size 3", "at 2 7 b"])

    def test_the_next_sign_in_order_counts(self):
        # The second a stands between the first one and the b that it would lead to.
        plate = [(1, 0, 0, 0, 1, "a"), (1, 0, 1, 0, 1, "a"), (1, 0, 2, 0, 1, "b")]
        self.assertEqual(describe(plate, FACES)[2:], ["at 0 0 a", "at 1 0 a", "at 2 0 b"])

    def test_equal_tuples(self):
        plate = [(1, 0, 0, 0, 1, "a")] * 3
        lines = describe(plate, FACES)
        self.assertEqual(lines, ["page 1", "face 0 size 1"] + ["at 0 0 a"] * 3)
        self.assertEqual(read_description(lines, FACES), plate)

    def test_wide_does_not_count(self):
        told = pages.usual_plan(["par: wide 2"])
        plate = plate_of(placed_signs(told.setting(), ("doc", "", (("par", "", ("xy",)),))))
        self.assertEqual(describe(plate, told.setting().faces)[2:], ["at 0 0 x", "at 3 0 y"])

    def test_empty_plate(self):
        self.assertEqual(describe([], FACES), [])


class ReadTest(unittest.TestCase):
    def test_any_order(self):
        lines = ["face 2 size 3", "page 3", "page 1", "at 10 0 z-", "face 0 size 1", "at 0 5 ab", "at 0 5 ab", "page 2",
                 "face 1 size 2", "at 0 0 a~"]
        self.assertEqual(read_description(lines, FACES), [
            (1, 0, 10, 2, 3, "z"), (1, 0, 13, 2, 3, "-"), (1, 5, 0, 0, 1, "a"), (1, 5, 0, 0, 1, "a"),
            (1, 5, 2, 0, 1, "b"), (1, 5, 2, 0, 1, "b"), (2, 0, 0, 1, 2, "a"), (2, 0, 2, 1, 2, "~")])
        self.assertEqual(read_description([], FACES), [])
        self.assertEqual(read_description(["page 1", "page 2", "face 0 size 1"], FACES), [])

    def test_great_numbers(self):
        lines = ["page 999999999999", "face 0 size 1", "at 123456789012 999999999999 x"]
        self.assertEqual(read_description(lines, FACES), [(999999999999, 999999999999, 123456789012, 0, 1, "x")])

    def assert_bad(self, lines, number):
        given = list(lines)
        with self.assertRaises(BadLine) as caught:
            read_description(lines, FACES)
        self.assertEqual((caught.exception.line, lines), (number, given))

    def test_lines_that_are_none(self):
        good = ["page 1", "face 0 size 1", "at 0 0 a"]
        for bad in (
                "", " ", "page", "page ", "page 0", "page 01", "page 1 ", "page  1", " page 1", "page -1", "page +1",
                "page x", "Page 1", "page 1000000000000", "page 1 2", "page \u0661", "page 1\n", "face 0", "face 3 size 1",
                "face 0 size 0", "face 0 size 4", "face 00 size 1", "face 0 size 01", "face 0  size 1", "face 0 size",
                "face 0 size 1 ", "face 0 wide 1", "face -1 size 1", "size 1 face 0", "face 0 size 1 at 0 0 a",
                "at", "at 0 0", "at 0 0 ", "at 0 0  a", "at 0 0 a b", "at 0 0 a ", "at 00 0 a", "at 0 01 a", "at -1 0 a",
                "at 0 1.0 a", "at 0 1000000000000 a", "at 0 0 a%", "at 0 0 [", "at 0 0 \\", "at 0 0 ]", "at 0 0 \u00e9",
                "at 0 0 a\n", "at 0 0 \t", "at x y z", "AT 0 0 a", "run"):
            self.assert_bad(good + [bad] + good + ["x"], 4)
            self.assert_bad([bad], 1)

    def test_at_lines_that_come_too_early(self):
        self.assert_bad(["at 0 0 a"], 1)
        self.assert_bad(["page 1", "at 0 0 a", "face 0 size 1"], 2)
        self.assert_bad(["face 0 size 1", "at 0 0 a", "page 1"], 2)
        self.assert_bad(["face 0 size 1", "face 1 size 1", "at 0 0 a", "nothing"], 3)

    def test_the_first_bad_line(self):
        self.assert_bad(["page 1", "face 0 size 1", "at 0 0 a", "x", "page 0"], 4)


class BothTest(unittest.TestCase):
    def test_behind_each_other(self):
        for seed in range(200):
            rnd = samples.chance(seed)
            plate = sorted((rnd.randint(1, 3), rnd.randint(0, 2), rnd.randint(0, 9), rnd.randint(0, 2),
                            rnd.randint(1, 2), rnd.choice("abx-!~")) for _ in range(rnd.randint(0, 25)))
            plate = plate + plate[:3]
            plate.sort()
            given = list(plate)
            lines = describe(plate, FACES)
            self.assertEqual(plate, given)
            told = list(lines)
            self.assertEqual(read_description(lines, FACES), plate)
            self.assertEqual(lines, told)
            self.assertEqual(describe(read_description(lines, FACES), FACES), lines)
            self.assertEqual(lines, self.searched(plate))

    def searched(self, plate):
        """The description of a plate, each sign held against the one before it."""
        lines = []
        page = face = None
        for at, (number, y, x, *style, sign) in enumerate(plate):
            before = plate[at - 1] if at > 0 else None
            if before and before[:2] == (number, y) and list(before[3:5]) == style:
                if before[2] + FACES[style[0]](before[5], style[1]) == x:
                    lines[-1] += sign
                    continue
            if number != page:
                lines.append(f"page {number}")
            if style != face:
                lines.append("face {} size {}".format(*style))
            page, face = number, style
            lines.append(f"at {x} {y} {sign}")
        return lines

    def test_placed_trees(self):
        for seed in range(60):
            rnd = samples.chance(seed)
            told = pages.random_plan(rnd)
            setting = told.setting()
            plate = plate_of(placed_signs(setting, pages.random_tree(rnd, told, 7)))
            self.assertEqual(read_description(describe(plate, setting.faces), setting.faces), plate)


if __name__ == "__main__":
    unittest.main()
