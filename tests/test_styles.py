"""[20], [23], [24] and laidforall/styles.py."""

import copy
import unittest

import oracles
import samples
from laidforall.errors import NoPlace
from laidforall.sheets import Sheet
from laidforall.styles import (
    DEFAULTS, PROPERTIES, accepts_reasons, counts, reason_table, style_of,
)

ROLES = ("root", "block", "head", "span", "note", "figure", "ref")

TREE = ("doc", "", (
    ("head", "", ("h", ("em", "", ("e",)))),
    ("par", "big", ("t", ("em", "x", (("em", "", ()),)), ("note", "", ("n",)))),
))


def random_case(seed):
    """Written rows and a tree."""
    rnd = samples.chance(seed)
    names = rnd.choice((["face"], ["size", "wide"], ["drop", "face"], list(PROPERTIES)))
    lines = [samples.row(rnd, ["a", "b"], ["x", "y"], names, 3) for _ in range(rnd.randint(0, 9))]
    return lines, samples.small_tree(rnd, rnd.randint(1, 5), ["a", "b"], ["", "x", "y"])


class PropertiesTest(unittest.TestCase):
    def test_properties_and_defaults(self):
        self.assertEqual(PROPERTIES, ("face", "size", "wide", "drop", "indent", "before"))
        self.assertEqual(DEFAULTS, (0, 1, 0, 0, 0, 0))

    def test_counts(self):
        for name in PROPERTIES:
            for role in ROLES:
                self.assertIs(counts(name, role), role in oracles.COUNTING[name], (name, role))


class StyleTest(unittest.TestCase):
    def test_defaults(self):
        for place in oracles.places_of(TREE):
            self.assertEqual(style_of(Sheet([]), TREE, place), DEFAULTS)

    def test_handed_down_or_not(self):
        sheet = Sheet.of("doc: face 1", "par: size 2", "par: wide 3", "par: drop 1",
                         "par: indent 4", "doc: before 5", "em.x: face 2")
        self.assertEqual(style_of(sheet, TREE, ()), (1, 1, 0, 0, 0, 5))
        self.assertEqual(style_of(sheet, TREE, (0,)), (1, 1, 0, 0, 0, 0))
        self.assertEqual(style_of(sheet, TREE, (1,)), (1, 2, 3, 1, 4, 0))
        self.assertEqual(style_of(sheet, TREE, (1, 1)), (2, 2, 3, 0, 0, 0))
        self.assertEqual(style_of(sheet, TREE, (1, 1, 0)), (2, 2, 3, 0, 0, 0))
        self.assertEqual(style_of(sheet, TREE, (1, 2)), (1, 2, 3, 0, 0, 0))

    def test_which_row_wins(self):
        def face(*lines):
            return style_of(Sheet(list(lines)), TREE, (1, 1))[0]

        self.assertEqual(face("em: face 1", "em: face 2"), 2)
        self.assertEqual(face("em: face 2", "em: face 1"), 1)
        self.assertEqual(face("em: face 1", "*: face 2"), 1)
        self.assertEqual(face("*.x: face 1", "par em: face 2"), 1)
        self.assertEqual(face("par em: face 1", "doc > par > em: face 2", "em: face 0"), 2)
        self.assertEqual(face("* : face 1".replace(" :", ":") + " firm", "par.big em.x: face 2"), 1)
        self.assertEqual(face("*: face 1 firm", "*: face 2 firm"), 2)
        self.assertEqual(face("par.big em: face 2", "em.x: face 1"), 2)
        self.assertEqual(face("em.x: face 1", "em.y: face 2 firm"), 1)

    def test_no_place(self):
        for place in ((2,), (0, 0), (1, 0, 0), (1, 1, 1), (1, 2, 0)):
            with self.assertRaises(NoPlace) as caught:
                style_of(Sheet.of("par: face 1"), TREE, place)
            self.assertEqual(caught.exception.place, place)

    def test_random_cases(self):
        for seed in range(150):
            lines, tree = random_case(seed)
            sheet = Sheet(lines)
            table = oracles.reasons(lines, tree)
            self.assertEqual(reason_table(sheet, tree), table)
            for place in oracles.places_of(tree):
                self.assertEqual(style_of(sheet, tree, place), oracles.style(table, place))


class ReasonsTest(unittest.TestCase):
    def test_reasons(self):
        sheet = Sheet.of("par: face 1", "em: indent 2")
        table = reason_table(sheet, TREE)
        self.assertEqual(set(table), set(oracles.places_of(TREE)))
        self.assertTrue(all(tuple(entry) == PROPERTIES for entry in table.values()))
        self.assertEqual(table[()]["face"], (0, ("default",)))
        self.assertEqual(table[(1,)]["face"], (1, ("row", 0)))
        self.assertEqual(table[(1, 1)]["face"], (1, ("parent",)))
        self.assertEqual(table[(1, 1)]["indent"], (2, ("row", 1)))
        self.assertEqual(table[(1, 1, 0)]["before"], (0, ("default",)))

    def test_the_right_table_is_accepted(self):
        for seed in range(60):
            lines, tree = random_case(seed)
            table = oracles.reasons(lines, tree)
            self.assertIs(accepts_reasons(Sheet(lines), tree, table), True)
            turned = {place: dict(reversed(list(table[place].items())))
                      for place in reversed(list(table))}
            self.assertIs(accepts_reasons(Sheet(lines), tree, turned), True)

    def test_spoilt_tables_are_refused(self):
        for seed in range(60):
            lines, tree = random_case(seed)
            sheet = Sheet(lines)
            table = oracles.reasons(lines, tree)
            for spoilt in self.spoilt(samples.chance(seed), table, len(lines)):
                before = copy.deepcopy(spoilt)
                self.assertIs(accepts_reasons(sheet, tree, spoilt), False)
                self.assertEqual(spoilt, before)

    def spoilt(self, rnd, table, many):
        """Tables with one value, one reason, or one place other, more or less."""
        place = rnd.choice(list(table))
        name = rnd.choice(PROPERTIES)
        value, reason = table[place][name]
        entries = [(value + 1, reason), (value - 1, reason)]
        reasons = [("default",), ("parent",)] + [("row", index) for index in range(many + 1)]
        entries.extend((value, other) for other in reasons if other != reason)
        for entry in entries:
            yield {at: {**table[at], name: entry} if at == place else table[at] for at in table}
        yield {at: table[at] for at in table if at != place}
        yield {**table, place + (9,): table[place]}
        yield {(place + (9,) if at == place else at): table[at] for at in table}
        yield {at: {other: table[at][other] for other in table[at] if (at, other) != (place, name)}
               for at in table}
        yield {at: {**table[at], "more": (0, ("default",))} if at == place else table[at]
               for at in table}

    def test_a_wrong_parent_does_not_help(self):
        sheet = Sheet.of("par: face 1")
        table = reason_table(sheet, TREE)
        for place in ((1,), (1, 1), (1, 1, 0), (1, 2)):
            reason = table[place]["face"][1]
            table[place]["face"] = (2, reason)
        self.assertIs(accepts_reasons(sheet, TREE, table), False)

    def test_tables_can_be_changed_without_effect(self):
        sheet = Sheet.of("par: face 1")
        table = reason_table(sheet, TREE)
        table[()]["face"] = None
        table[(1,)].clear()
        table.pop((0,))
        self.assertEqual(reason_table(sheet, TREE), oracles.reasons(list(sheet), TREE))


if __name__ == "__main__":
    unittest.main()
