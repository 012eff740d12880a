"""[20], [22], [23] and laidforall/sheets.py."""

import itertools
import unittest

import oracles
import samples
from laidforall.errors import BadLine, BadPattern, BadValue, NoPlace, NoSuchNumber, TooLarge
from laidforall.patterns import Pattern
from laidforall.sheets import Rank, Sheet

LINES = [
    "par: indent 2",
    "head + par: indent 0",
    "*.big: size 3 firm",
    "par em.x: face 1",
]


class ReadingTest(unittest.TestCase):
    def assert_bad(self, lines, line, cause, text):
        with self.assertRaises(BadLine) as caught:
            Sheet(lines)
        self.assertEqual(caught.exception.line, line)
        self.assertIs(type(caught.exception.__cause__), cause)
        self.assertEqual(caught.exception.__cause__.text, text)

    def test_all_ranges(self):
        for name, (least, greatest) in samples.RANGES.items():
            for value in range(-1, 13):
                line = f"a: {name} {value}"
                if least <= value <= greatest:
                    self.assertEqual(Sheet([line]).row(0)[1:], (name, value, False))
                    self.assertEqual(Sheet([line + " firm"]).row(0)[1:], (name, value, True))
                else:
                    self.assert_bad([line], 1, BadValue, f"{name} {value}")

    def test_bad_values(self):
        for text in ("", " ", "indent", "indent ", "indent  1", " indent 1", "indent 1 ",
                     "indent 01", "indent 00", "indent +1", "indent 1 Firm", "indent 1 firm ",
                     "indent 1  firm", "indent 1 firm firm", "indent firm", "firm", "colour 1",
                     "Indent 1", "indent 1: 2", "indent x", "indent 1.0", "indent \u0661",
                     "indent \u00b2", "indent 1\n", "indent\t1", "size 0", "face 3", "wide 12",
                     "indent 1 frim", "indent 1 not firm", "size 1 2", "face face 1"):
            self.assert_bad([f"a: {text}"], 1, BadValue, text)

    def test_bad_patterns(self):
        for text in ("", "a.", "a >", "a b c d e", "A", "a  b"):
            self.assert_bad([f"{text}: indent 1"], 1, BadPattern, text)
            self.assert_bad([f"{text}: nothing"], 1, BadPattern, text)

    def test_where_the_line_is_cut(self):
        self.assert_bad(["a"], 1, BadValue, "")
        self.assert_bad(["a indent 1"], 1, BadPattern, "a indent 1")
        self.assert_bad(["a indent"], 1, BadValue, "")
        self.assert_bad(["a:indent 1"], 1, BadPattern, "a:indent 1")
        self.assert_bad([""], 1, BadPattern, "")
        self.assert_bad(["a: b: indent 1"], 1, BadValue, "b: indent 1")
        self.assert_bad([": a: indent 1"], 1, BadPattern, "")
        self.assert_bad(["a : indent 1"], 1, BadPattern, "a ")
        self.assert_bad(["a:  indent 1"], 1, BadValue, " indent 1")

    def test_number_of_the_line(self):
        self.assert_bad(LINES + ["x", "y!"], 5, BadValue, "")
        self.assert_bad(["a: face 9", "?: face 1"], 1, BadValue, "face 9")
        self.assert_bad(["a: face 1"] * 11 + ["?: face 1"], 12, BadPattern, "?")

    def test_too_large(self):
        self.assertEqual(len(Sheet(["a: face 1"] * 12)), 12)
        for many in (13, 40):
            for line in ("a: face 1", "?"):
                with self.assertRaises(TooLarge) as caught:
                    Sheet([line] * many)
                self.assertEqual(caught.exception.many, many)


class ListTest(unittest.TestCase):
    def test_list(self):
        sheet = Sheet(LINES)
        self.assertEqual(list(sheet), LINES)
        self.assertEqual(len(sheet), 4)
        self.assertEqual([sheet[index] for index in range(4)], LINES)
        self.assertEqual((len(Sheet([])), list(Sheet([]))), (0, []))

    def test_of(self):
        self.assertEqual(Sheet.of(*LINES), Sheet(LINES))
        self.assertEqual(Sheet.of(), Sheet([]))
        with self.assertRaises(BadLine):
            Sheet.of("a: face 1", "x y")
        with self.assertRaises(TooLarge):
            Sheet.of(*["a: face 1"] * 13)

    def test_numbers(self):
        for sheet in (Sheet(LINES), Sheet([])):
            for index in (-1, len(sheet), len(sheet) + 5, -len(sheet) - 1):
                for action in (sheet.row, sheet.rank, lambda index: sheet[index]):
                    with self.assertRaises(NoSuchNumber) as caught:
                        action(index)
                    self.assertEqual(caught.exception.number, index)

    def test_row(self):
        self.assertEqual(Sheet(LINES).row(1), (Pattern("head + par"), "indent", 0, False))
        self.assertEqual(Sheet(LINES).row(2), (Pattern("*.big"), "size", 3, True))
        self.assertIsInstance(Sheet(LINES).row(0), tuple)

    def test_only_and_without(self):
        sheet = Sheet(LINES)
        for many in range(5):
            for some in itertools.permutations(range(4), many):
                kept = [line for index, line in enumerate(LINES) if index in some]
                left = [line for index, line in enumerate(LINES) if index not in some]
                for form in (list, tuple):
                    self.assertEqual(list(sheet.only(form(some))), kept)
                    self.assertEqual(list(sheet.without(form(some))), left)
        self.assertEqual(sheet.only([7, -1, 3, 3, 4]), Sheet(LINES[3:]))
        self.assertEqual(sheet.without((-1, 4, 99)), sheet)
        self.assertEqual(list(sheet), LINES)

    def test_equal(self):
        self.assertEqual(Sheet(LINES), Sheet(list(LINES)))
        self.assertNotEqual(Sheet(LINES), Sheet(LINES[::-1]))
        self.assertNotEqual(Sheet(LINES), Sheet(LINES[:3]))
        self.assertFalse(Sheet(LINES) == LINES)
        self.assertFalse(Sheet([]) == [])

    def test_sum(self):
        first, second = Sheet(LINES[:1]), Sheet(LINES[1:])
        self.assertEqual(first + second, Sheet(LINES))
        self.assertEqual(second + first, Sheet(LINES[1:] + LINES[:1]))
        self.assertEqual(first + Sheet([]), first)
        self.assertEqual((list(first), list(second)), (LINES[:1], LINES[1:]))
        with self.assertRaises(TooLarge) as caught:
            Sheet(["a: face 1"] * 12) + first
        self.assertEqual(caught.exception.many, 13)
        self.assertEqual(len(Sheet(["a: face 1"] * 11) + first), 12)
        with self.assertRaises(TypeError):
            first + LINES

    def test_what_is_passed_is_copied(self):
        lines = list(LINES)
        sheet = Sheet(lines)
        self.assertEqual(lines, LINES)
        lines[0] = "em: face 2"
        lines.append("em: face 1")
        self.assertEqual(list(sheet), LINES)
        self.assertEqual(sheet.row(0)[1], "indent")
        indexes = [1, 0]
        sheet.only(indexes)
        sheet.without(indexes)
        self.assertEqual(indexes, [1, 0])


class RankTest(unittest.TestCase):
    def test_fields(self):
        rank = Rank(True, 2, 3, 11)
        self.assertEqual((rank.firm, rank.marks, rank.kinds, rank.index), (True, 2, 3, 11))

    def test_all_comparisons(self):
        keys = list(itertools.product((False, True), (0, 1, 4), (0, 2), (0, 5)))
        for one in keys:
            for two in keys:
                first, second = Rank(*one), Rank(*two)
                self.assertIs(first == second, one == two)
                self.assertIs(first != second, one != two)
                self.assertIs(first < second, one < two)
                self.assertIs(first <= second, one <= two)
                self.assertIs(first > second, one > two)
                self.assertIs(first >= second, one >= two)

    def test_only_ranks_are_equal(self):
        self.assertFalse(Rank(False, 1, 1, 0) == (False, 1, 1, 0))
        self.assertTrue(Rank(False, 1, 1, 0) != (False, 1, 1, 0))
        rank, parts = Rank(False, 1, 1, 0), (False, 1, 1, 1)
        for action in (lambda: rank < parts, lambda: rank <= parts,
                       lambda: rank > parts, lambda: rank >= parts):
            with self.assertRaises(TypeError):
                action()

    def test_rank_of_a_row(self):
        sheet = Sheet(["a.m > * + b c.n: face 1 firm", "*: face 1", "a b: face 1", "*.x: face 2"])
        told = [sheet.rank(index) for index in range(4)]
        self.assertEqual(
            [(rank.firm, rank.marks, rank.kinds, rank.index) for rank in told],
            [(True, 2, 3, 0), (False, 0, 0, 1), (False, 0, 2, 2), (False, 1, 0, 3)],
        )


class BidsTest(unittest.TestCase):
    TREE = ("doc", "", (("head", "", ()), ("par", "big", ("t", ("em", "x", ())))))

    def test_bids(self):
        sheet = Sheet(LINES)
        self.assertEqual(sheet.bids(self.TREE, (1,), "indent"), [0, 1])
        self.assertEqual(sheet.bids(self.TREE, (1,), "size"), [2])
        self.assertEqual(sheet.bids(self.TREE, (1, 1), "face"), [3])
        self.assertEqual(sheet.bids(self.TREE, (1, 1), "size"), [])
        self.assertEqual(sheet.bids(self.TREE, (), "indent"), [])
        self.assertEqual(sheet.bids(self.TREE, (1,), "before"), [])

    def test_no_place(self):
        for sheet in (Sheet(LINES), Sheet([])):
            for place in ((2,), (1, 0), (1, 2), (0, 0), (1, 0, 0)):
                with self.assertRaises(NoPlace) as caught:
                    sheet.bids(self.TREE, place, "drop")
                self.assertEqual(caught.exception.place, place)

    def test_random_sheets(self):
        for seed in range(80):
            rnd = samples.chance(seed)
            lines = [samples.row(rnd, ["a", "b"], ["x"], ["face", "drop"]) for _ in range(6)]
            tree = samples.small_tree(rnd, 5, ["a", "b"], ["", "x"])
            sheet = Sheet(lines)
            for place in oracles.places_of(tree):
                for name in ("face", "drop"):
                    told = [index for index, line in enumerate(lines)
                            if oracles.read_line(line)[1] == name
                            and oracles.match(oracles.read_line(line)[0], tree, place)]
                    bids = sheet.bids(tree, place, name)
                    self.assertEqual(bids, told)
                    bids.append(99)
                    self.assertEqual(sheet.bids(tree, place, name), told)


if __name__ == "__main__":
    unittest.main()
