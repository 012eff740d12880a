"""[25] to [28] and laidforall/situations.py."""

import itertools
import unittest

import oracles
import samples
from laidforall.errors import NoSuchNumber, TooLarge, Unknown
from laidforall.grammars import Grammar
from laidforall.sheets import Sheet
from laidforall.situations import (
    first_parting, idle_rows, least_rows, needless_rows, possible_styles, tree_with_style, tree_won,
)
from laidforall.styles import style_of

PROPERTIES = oracles.PROPERTY_NAMES

NAMES = (list(PROPERTIES), ["face"], ["face", "size"], ["drop", "indent"], ["indent"], ["wide"])


class Case:
    """A grammar, two sheets, and all small trees with their two reason tables."""

    def __init__(self, seed, most):
        rnd = samples.chance(seed)
        many = rnd.randint(1, 3)
        self.rows = samples.grammar_rows(rnd, many)
        self.kinds = sorted(kind for kind, _, _ in self.rows)
        self.roles = {kind: role for kind, role, _ in self.rows}
        self.grammar = Grammar("r", self.rows)
        marks = rnd.choice((["x"], ["x", "y"]))
        names = rnd.choice(NAMES)
        self.lines = [samples.row(rnd, self.kinds, marks, names) for _ in range(rnd.randint(1, 5))]
        self.others = self.changed(rnd)
        self.sheet = Sheet(self.lines)
        self.other = Sheet(self.others)
        self.marks = {mark for line in self.lines + self.others
                      for mark in [test[1] for test in
                                   oracles.split_pattern(oracles.read_line(line)[0])[0]]}
        self.most = most if many < 3 else most - 1
        self.seen = [
            (size, tree, oracles.reasons(self.lines, tree), oracles.reasons(self.others, tree))
            for size in range(1, self.most + 1)
            for tree in oracles.trees_of(self.rows, "r", size, sorted(self.marks | {""}))
        ]

    def changed(self, rnd):
        """The rows in another order, or with one row less, or with another value."""
        others = list(self.lines)
        way = rnd.randrange(3)
        if way == 0:
            others.pop(rnd.randrange(len(others)))
        elif way == 1:
            rnd.shuffle(others)
        else:
            at = rnd.randrange(len(others))
            others[at] = others[at].replace(" 1", " 2")
        return others

    def elements(self):
        """All elements of the small trees: (size, kind, place, table, other table)."""
        for size, tree, table, other in self.seen:
            for place in table:
                yield size, oracles.node_of(tree, place)[0], place, table, other

    def differs(self, kind, place, table, other):
        """The properties that count for a kind and differ at a place."""
        return [name for name in PROPERTIES if self.roles[kind] in oracles.COUNTING[name]
                and table[place][name][0] != other[place][name][0]]


class Checks(unittest.TestCase):
    def assert_example(self, case, found, fewest):
        """The told tree is one of the grammar with the fewest elements; the place is its last."""
        tree, place = found
        nodes = oracles.nodes_of(tree)
        self.assertFalse([node for _, node in nodes if isinstance(node, str)])
        self.assertTrue({node[1] for _, node in nodes} <= case.marks | {""})
        self.assertTrue(oracles.fits(case.rows, "r", tree))
        self.assertEqual(place, oracles.places_of(tree)[-1])
        if fewest is None:
            self.assertGreater(len(nodes), case.most)
        else:
            self.assertEqual(len(nodes), fewest)
        return tree, place


def first_sizes(pairs):
    """A dict from each item to the first size with which it comes."""
    found = {}
    for size, item in pairs:
        found.setdefault(item, size)
    return found


class SearchTest(Checks):
    def test_styles(self):
        for seed in range(60):
            case = Case(seed, 4)
            seen = first_sizes((size, (kind, oracles.style(table, place)))
                               for size, kind, place, table, _ in case.elements())
            for kind in case.kinds:
                told = possible_styles(case.sheet, case.grammar, kind)
                self.assertEqual(told, sorted(set(told)))
                self.assertTrue({style for other, style in seen if other == kind} <= set(told))
                for style in told:
                    found = tree_with_style(case.sheet, case.grammar, kind, style)
                    tree, place = self.assert_example(case, found, seen.get((kind, style)))
                    self.assertEqual(oracles.node_of(tree, place)[0], kind)
                    table = oracles.reasons(case.lines, tree)
                    self.assertEqual(oracles.style(table, place), style)
                for style in itertools.product(range(2), range(1, 3), range(2), (0,), (0, 1), (0,)):
                    if style not in told:
                        self.assertNotIn((kind, style), seen)
                        self.assertIsNone(tree_with_style(case.sheet, case.grammar, kind, style))

    def test_winning_rows(self):
        for seed in range(150):
            case = Case(seed, 4)
            seen = first_sizes((size, table[place][name][1][1])
                               for size, _, place, table, _ in case.elements()
                               for name in PROPERTIES if table[place][name][1][0] == "row")
            idle = []
            for index, line in enumerate(case.lines):
                found = tree_won(case.sheet, case.grammar, index)
                if found is None:
                    self.assertNotIn(index, seen)
                    idle.append(index)
                else:
                    tree, place = self.assert_example(case, found, seen.get(index))
                    table = oracles.reasons(case.lines, tree)
                    name = oracles.read_line(line)[1]
                    self.assertEqual(table[place][name][1], ("row", index))
            self.assertEqual(idle_rows(case.sheet, case.grammar), idle)

    def test_partings(self):
        kinds_of_answers = set()
        for seed in range(200):
            case = Case(seed, 4)
            seen = [size for size, kind, place, table, other in case.elements()
                    if case.differs(kind, place, table, other)]
            found = first_parting(case.sheet, case.other, case.grammar)
            kinds_of_answers.add(found is None)
            if found is None:
                self.assertEqual(seen, [])
                continue
            tree, place = self.assert_example(case, found[:2], min(seen, default=None))
            kind = oracles.node_of(tree, place)[0]
            parting = case.differs(kind, place, oracles.reasons(case.lines, tree),
                                   oracles.reasons(case.others, tree))
            self.assertEqual(found[2], parting[0])
        self.assertEqual(kinds_of_answers, {False, True})

    def test_needless_and_least_rows(self):
        for seed in range(120):
            case = Case(seed, 2)
            told = needless_rows(case.sheet, case.grammar)
            many = len(case.sheet)
            self.assertEqual(told, [index for index in range(many) if first_parting(
                case.sheet, case.sheet.without([index]), case.grammar) is None])
            least = next(
                some for size in range(many + 1)
                for some in itertools.combinations(range(many), size)
                if first_parting(case.sheet, case.sheet.only(some), case.grammar) is None
            )
            self.assertEqual(least_rows(case.sheet, case.grammar), least)

    def test_least_rows_against_all_small_trees(self):
        for seed in range(60):
            case = Case(seed, 4)
            least = least_rows(case.sheet, case.grammar)
            kept = [case.lines[index] for index in least]
            for _, tree, table, _ in case.seen:
                other = oracles.reasons(kept, tree)
                for place in table:
                    kind = oracles.node_of(tree, place)[0]
                    self.assertEqual(case.differs(kind, place, table, other), [])


class UsualTest(unittest.TestCase):
    def setUp(self):
        self.usual = Grammar.usual()

    def test_plain_sheet(self):
        self.assertEqual(possible_styles(Sheet([]), self.usual, "em"), [(0, 1, 0, 0, 0, 0)])
        self.assertEqual(tree_with_style(Sheet([]), self.usual, "em", (0, 1, 0, 0, 0, 0))[1], (0, 0))
        self.assertIsNone(tree_with_style(Sheet([]), self.usual, "em", (1, 1, 0, 0, 0, 0)))
        self.assertEqual((idle_rows(Sheet([]), self.usual), needless_rows(Sheet([]), self.usual)), ([], []))
        self.assertEqual(least_rows(Sheet([]), self.usual), ())
        self.assertIsNone(first_parting(Sheet([]), Sheet([]), self.usual))

    def test_styles_have_all_six_values(self):
        sheet = Sheet.of("em: indent 4", "par: drop 2", "doc: before 1", "doc: size 3")
        self.assertEqual(possible_styles(sheet, self.usual, "em"), [(0, 3, 0, 0, 4, 0)])
        self.assertEqual(possible_styles(sheet, self.usual, "par"), [(0, 3, 0, 2, 0, 0)])
        self.assertEqual(possible_styles(sheet, self.usual, "doc"), [(0, 3, 0, 0, 0, 1)])

    def test_values_that_do_not_count(self):
        self.assertIsNone(first_parting(Sheet.of("em: indent 4"), Sheet([]), self.usual))
        self.assertIsNone(first_parting(Sheet.of("doc: indent 4"), Sheet([]), self.usual))
        self.assertIsNone(first_parting(Sheet.of("par: drop 1"), Sheet([]), self.usual))
        self.assertEqual(needless_rows(Sheet.of("em: before 4", "em: drop 1"), self.usual), [0])
        self.assertEqual(idle_rows(Sheet.of("em: before 4"), self.usual), [])

    def test_a_value_of_the_root_parts_below_it(self):
        tree, place, name = first_parting(Sheet.of("doc: face 1"), Sheet([]), self.usual)
        self.assertEqual((len(oracles.places_of(tree)), place, name), (2, (0,), "face"))
        only_root = Grammar("r", [("r", "root", ())])
        self.assertIsNone(first_parting(Sheet.of("r: face 1"), Sheet([]), only_root))

    def test_needs_many_elements(self):
        sheet = Sheet.of("em.a em.b em.c em: face 1", "em.c + em.b + em.a + em: drop 1")
        tree, place = tree_won(sheet, self.usual, 0)
        self.assertEqual(place, (0, 0, 0, 0, 0))
        tree, place = tree_won(sheet, self.usual, 1)
        self.assertEqual(place, (0, 3))
        self.assertEqual(idle_rows(sheet, self.usual), [])
        tree, place = tree_with_style(sheet, self.usual, "em", (1, 1, 0, 1, 0, 0))
        self.assertEqual(len(oracles.places_of(tree)), 9)

    def test_rows_that_never_win(self):
        sheet = Sheet.of("doc + par: face 1", "head > note: face 1", "par + doc: face 1",
                         "em: face 1", "* > em: face 2", "em em: face 1", "em > em: face 2")
        self.assertEqual(idle_rows(sheet, self.usual), [0, 1, 2, 3, 5])
        self.assertIsNone(tree_won(sheet, self.usual, 3))
        self.assertEqual(needless_rows(sheet, self.usual), [0, 1, 2, 3, 5])

    def test_least_of_two_equal_ones(self):
        sheet = Sheet.of("em: face 1", "note: drop 0", "em: face 1", "em.x: face 1", "par: indent 3")
        self.assertEqual(needless_rows(sheet, self.usual), [0, 1, 2, 3])
        self.assertEqual(least_rows(sheet, self.usual), (0, 4))

    def test_rows_turned_about(self):
        first = Sheet.of("em.x: face 1", "em.y: face 2")
        second = Sheet.of("em.y: face 2", "em.x: face 1")
        self.assertIsNone(first_parting(first, second, self.usual))
        first = Sheet.of("em.x em: face 1", "em.y em: face 2")
        second = Sheet.of("em.y em: face 2", "em.x em: face 1")
        tree, place, name = first_parting(first, second, self.usual)
        self.assertEqual((len(oracles.places_of(tree)), name), (5, "face"))

    def test_first_property_that_differs(self):
        second = Sheet.of("em: drop 1", "em: wide 1", "em: size 1", "em: indent 1")
        self.assertEqual(first_parting(Sheet([]), second, self.usual)[2], "wide")

    def test_a_full_sheet(self):
        names = ("face", "size", "wide", "drop")
        lines = [f"*.{'xyz'[index % 3]} em.{'zxy'[index % 3]} > em + *: {names[index % 4]} 1"
                 for index in range(12)]
        sheet = Sheet(lines)
        self.assertEqual(idle_rows(sheet, self.usual), [])
        # The rows of all four properties match together, and two values are handed down.
        self.assertEqual(possible_styles(sheet, self.usual, "em"), [
            (0, 1, 0, 0, 0, 0), (1, 1, 1, 0, 0, 0), (1, 1, 1, 1, 0, 0),
        ])

    def test_wrong_kinds_and_numbers(self):
        sheet = Sheet.of("em: face 1")
        for kind in ("x", ""):
            with self.assertRaises(Unknown) as caught:
                possible_styles(sheet, self.usual, kind)
            self.assertEqual(caught.exception.kind, kind)
            with self.assertRaises(Unknown) as caught:
                tree_with_style(sheet, self.usual, kind, (0, 1, 0, 0, 0, 0))
            self.assertEqual(caught.exception.kind, kind)
        for index in (-1, 1, 2):
            with self.assertRaises(NoSuchNumber) as caught:
                tree_won(sheet, self.usual, index)
            self.assertEqual(caught.exception.number, index)

    def test_too_many_rows_for_the_least(self):
        lines = ["em: face 1", "par: indent 1", "par: before 1", "em: drop 1", "em: size 2", "em: wide 1"]
        self.assertEqual(least_rows(Sheet(lines), self.usual), (0, 1, 2, 3, 4, 5))
        for many in (7, 12):
            with self.assertRaises(TooLarge) as caught:
                least_rows(Sheet((lines * 2)[:many]), self.usual)
            self.assertEqual(caught.exception.many, many)

    def test_a_kind_that_stands_nowhere(self):
        rows = [("r", "root", ("p",)), ("p", "block", ()), ("s", "span", ()), ("q", "root", ("p",))]
        grammar = Grammar("r", rows)
        sheet = Sheet.of("s: face 1", "q > p: face 1", "p: face 1")
        self.assertEqual(possible_styles(sheet, grammar, "s"), [])
        self.assertIsNone(tree_with_style(sheet, grammar, "s", (1, 1, 0, 0, 0, 0)))
        self.assertEqual(idle_rows(sheet, grammar), [0, 1])


FOUR_MARKS = [f"*.{letter}w *.{letter}x *.{letter}y *.{letter}z" for letter in "abcdefghijkl"]


class FullSheetTest(unittest.TestCase):
    """Twelve rows, each with marks of its own in all of its four tests."""

    def setUp(self):
        self.usual = Grammar.usual()

    def sheet(self, *values):
        """A sheet with these values, again and again."""
        return Sheet([f"{text}: {values[at % len(values)]}" for at, text in enumerate(FOUR_MARKS)])

    def test_a_row_that_always_wins(self):
        for value, last in (("size 2", "*: size 1 firm"), ("wide 3", "*: wide 0 firm"),
                            ("drop 1", "*: drop 3 firm"), ("face 2", "*: face 1 firm")):
            lines = list(self.sheet(value))[:11] + [last]
            needless = list(range(11))
            self.assertEqual(needless_rows(Sheet(lines), self.usual), needless)
            self.assertEqual(idle_rows(Sheet(lines), self.usual), needless)
            tree, place = tree_won(Sheet(lines), self.usual, 11)
            self.assertEqual((tree, place), (("doc", "", ()), ()))
            self.assertEqual(len(possible_styles(Sheet(lines), self.usual, "em")), 1)
            self.assertIsNone(first_parting(Sheet(lines), Sheet([last]), self.usual))
        # What is always the default needs no row at all.
        lines = list(self.sheet("size 2"))[:5] + ["*: size 1 firm"]
        self.assertEqual(least_rows(Sheet(lines), self.usual), ())
        lines = list(self.sheet("size 2"))[:5] + ["*: size 3 firm"]
        self.assertEqual(least_rows(Sheet(lines), self.usual), (5,))

    def test_two_rows_that_together_always_win(self):
        lines = list(self.sheet("size 2"))[:10] + ["* *: size 3 firm", "doc: size 1 firm"]
        self.assertEqual(needless_rows(Sheet(lines), self.usual), list(range(10)) + [11])
        self.assertEqual(idle_rows(Sheet(lines), self.usual), list(range(10)))
        kinds = ["head", "par", "em", "note", "fig", "see", "doc"]
        lines = list(self.sheet("drop 1"))[:5] + [f"{kind}: drop 2 firm" for kind in kinds]
        self.assertEqual(needless_rows(Sheet(lines), self.usual), [0, 1, 2, 3, 4, 5, 6, 11])

    def test_rows_that_give_what_is_there_anyhow(self):
        for value in ("size 1", "face 0", "indent 0", "drop 0"):
            sheet = self.sheet(value)
            self.assertEqual(needless_rows(sheet, self.usual), list(range(12)))
            self.assertIsNone(first_parting(sheet, Sheet([]), self.usual))
            self.assertEqual(idle_rows(sheet, self.usual), [])

    def test_the_order_makes_no_difference(self):
        for values in (("size 2",), ("size 2", "size 3"), ("drop 1", "drop 2", "drop 3"), ("wide 1", "face 2")):
            sheet = self.sheet(*values)
            turned = Sheet(list(sheet)[::-1])
            self.assertIsNone(first_parting(sheet, turned, self.usual))
            self.assertEqual(needless_rows(sheet, self.usual), [])

    def test_one_row_more(self):
        sheet = self.sheet("size 2", "size 3")
        tree, place, name = first_parting(sheet, sheet.without([7]), self.usual)
        self.assertEqual((len(oracles.places_of(tree)), place, name), (4, (0, 0, 0), "size"))
        tree, place = tree_won(sheet, self.usual, 7)
        self.assertEqual(len(oracles.places_of(tree)), 4)
        tree, place = tree_with_style(sheet, self.usual, "em", (0, 3, 0, 0, 0, 0))
        self.assertEqual(len(oracles.places_of(tree)), 4)
        told = [(0, size, 0, 0, 0, 0) for size in (1, 2, 3)]
        self.assertEqual(possible_styles(sheet, self.usual, "em"), told)

    def all_properties(self, link):
        """Two rows for each property, each with marks of its own."""
        told = ("face 1", "face 2", "size 2", "size 3", "wide 1", "wide 2",
                "drop 1", "drop 2", "indent 1", "indent 2", "before 1", "before 2")
        return Sheet([link.join(f"*.{letter}{end}" for end in "wxy") + f"{link}*: {value}"
                      for letter, value in zip("abcdefghijkl", told)])

    def test_rows_of_all_properties(self):
        sheet = self.all_properties(" ")
        every = itertools.product(range(3), range(1, 4), *[range(3)] * 4)
        self.assertEqual(possible_styles(sheet, self.usual, "em"), list(every))
        self.assertEqual(possible_styles(sheet, self.usual, "note"), [(0, 1, 0, 0, 0, 0)])
        for link, many, needless in ((" ", 19, [8, 9, 10, 11]), (" > ", None, [8, 9, 10, 11]), (" + ", None, [])):
            sheet = self.all_properties(link)
            found = tree_with_style(sheet, self.usual, "em", (2, 3, 2, 2, 2, 2))
            self.assertEqual(found and len(oracles.places_of(found[0])), many)
            self.assertEqual(needless_rows(sheet, self.usual), needless)
            self.assertEqual(idle_rows(sheet, self.usual), [])

    def test_rows_of_the_same_values(self):
        names = ("face 1", "size 2", "wide 1", "drop 1", "indent 1", "before 1")
        lines = [f"*.{letter}w *.{letter}x *.{letter}y *: {names[at // 2]}" for at, letter in enumerate("abcdefghijkl")]
        tree, place = tree_with_style(Sheet(lines), self.usual, "em", (1, 2, 1, 1, 1, 1))
        self.assertEqual(len(oracles.places_of(tree)), 19)
        self.assertEqual(style_of(Sheet(lines), tree, place), (1, 2, 1, 1, 1, 1))

    def test_behind_and_inside(self):
        texts = [f"*.{letter}w + *.{letter}x > *.{letter}y + *.{letter}z" for letter in "abcdefghijk"]
        sheet = Sheet([f"{text}: wide 1" for text in texts] + ["*: wide 0 firm"])
        self.assertEqual(needless_rows(sheet, self.usual), list(range(11)))
        self.assertEqual(needless_rows(sheet.without([11]), self.usual), [])
        self.assertEqual(needless_rows(sheet.only([0, 1, 11]), self.usual), [0, 1])


if __name__ == "__main__":
    unittest.main()
