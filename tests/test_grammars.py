"""[15], [16] and laidforall/grammars.py."""

import itertools
import unittest

import oracles
import samples
from laidforall.errors import Misfit, Strange, Taken, Unknown
from laidforall.grammars import Grammar

ROLES = ("root", "block", "head", "span", "note", "figure", "ref")

USUAL = [
    ("doc", "root", ("head", "par")),
    ("head", "head", ("em", "see")),
    ("par", "block", ("em", "note", "fig", "see")),
    ("em", "span", ("em", "see")),
    ("note", "note", ("em",)),
    ("fig", "figure", ("em",)),
    ("see", "ref", ()),
]


class MakingTest(unittest.TestCase):
    def assert_kind(self, error, kind, root, rows):
        with self.assertRaises(error) as caught:
            Grammar(root, rows)
        self.assertEqual(caught.exception.kind, kind)

    def test_each_error(self):
        root = ("r", "root", ())
        self.assert_kind(Taken, "a", "r", [root, ("a", "span", ()), ("a", "ref", ())])
        self.assert_kind(Unknown, "x", "x", [root])
        self.assert_kind(Unknown, "r", "r", [])
        self.assert_kind(Misfit, "a", "a", [("a", "block", ())])
        self.assert_kind(Unknown, "b", "r", [("r", "root", ("b",))])
        self.assert_kind(Misfit, "a", "r", [("r", "root", ("a",)), ("a", "span", ())])

    def test_order_of_errors(self):
        rows = [("r", "root", ("s", "x")), ("s", "span", ("q",)), ("s", "ref", ()), ("r", "ref", ())]
        self.assert_kind(Taken, "s", "w", rows)
        self.assert_kind(Unknown, "w", "w", rows[:2])
        self.assert_kind(Misfit, "s", "s", rows[:2])
        self.assert_kind(Misfit, "s", "r", rows[:2])
        self.assert_kind(Unknown, "x", "r", [("r", "root", ("x", "s")), rows[1]])
        self.assert_kind(Unknown, "q", "r", [rows[1], rows[0]])
        self.assert_kind(Unknown, "y", "r", [("r", "root", ("b",)), ("b", "block", ("y", "b"))])
        self.assert_kind(Misfit, "b", "r", [("r", "root", ("b",)), ("b", "block", ("b", "y"))])

    def test_which_role_stands_in_which(self):
        for outer, inner in itertools.product(ROLES, ROLES):
            rows = [("r", "root", ()), ("a", outer, ("b",)), ("b", inner, ())]
            if inner in oracles.ALLOWED_INSIDE[outer]:
                self.assertEqual(Grammar("r", rows)["a"], (outer, ("b",)))
            else:
                self.assert_kind(Misfit, "b", "r", rows)

    def test_a_kind_in_itself(self):
        rows = [("r", "root", ("p",)), ("p", "block", ("s",)), ("s", "span", ("s",))]
        self.assertEqual(len(Grammar("r", rows)), 3)

    def test_what_is_told(self):
        grammar = Grammar("doc", USUAL)
        self.assertEqual(grammar.root, "doc")
        self.assertEqual(len(grammar), 7)
        self.assertEqual(list(grammar), [kind for kind, _, _ in USUAL])
        for kind, role, inner in USUAL:
            self.assertEqual(grammar[kind], (role, inner))
            self.assertIn(kind, grammar)
        self.assertNotIn("x", grammar)
        self.assertNotIn("", grammar)
        with self.assertRaises(Unknown) as caught:
            grammar["x"]
        self.assertEqual(caught.exception.kind, "x")

    def test_usual(self):
        grammar = Grammar.usual()
        self.assertEqual(grammar.root, "doc")
        self.assertEqual([(kind,) + grammar[kind] for kind in grammar], USUAL)

    def test_rows_are_copied(self):
        rows = list(USUAL)
        grammar = Grammar("doc", rows)
        self.assertEqual(rows, USUAL)
        rows.clear()
        self.assertEqual(len(grammar), 7)
        self.assertIn("see", grammar)


class CheckingTest(unittest.TestCase):
    def setUp(self):
        self.grammar = Grammar.usual()

    def assert_strange(self, place, tree):
        with self.assertRaises(Strange) as caught:
            self.grammar.check(tree)
        self.assertEqual(caught.exception.place, place)

    def test_trees_of_the_grammar(self):
        par = ("par", "m", ("a", ("em", "x", ("b", ("em", "", ()))), ("see", "", ()), ("note", "", ("t",))))
        self.assertIsNone(self.grammar.check(("doc", "", ())))
        self.assertIsNone(self.grammar.check(("doc", "any", (par, ("head", "", ("h",)), par))))

    def test_first_place(self):
        par = ("par", "", ())
        self.assert_strange((), par)
        self.assert_strange((), ("x", "", ("t",)))
        self.assert_strange((0,), ("doc", "", ("t", par)))
        self.assert_strange((1,), ("doc", "", (par, ("em", "", ()), ("x", "", ()))))
        self.assert_strange((0,), ("doc", "", (("x", "", (("y", "", ()),)),)))
        self.assert_strange((0, 0), ("doc", "", (("par", "", (("par", "", ()),)), "t")))
        self.assert_strange((0, 0, 0), ("doc", "", (("par", "", (("see", "", ("t",)),)),)))
        self.assert_strange((0, 0, 0), ("doc", "", (("par", "", (("note", "", (("see", "", ()),)),)),)))
        self.assert_strange((0,), ("doc", "", (("doc", "", ()),)))

    def test_texts_by_role(self):
        for role in ROLES:
            rows = [("r", "root", ("b",)), ("b", "block", ("x",)), ("x", role, ())]
            if role in ("root", "block", "head"):
                continue
            grammar = Grammar("r", rows)
            tree = ("r", "", (("b", "", (("x", "", ("t",)),)),))
            if role == "ref":
                with self.assertRaises(Strange) as caught:
                    grammar.check(tree)
                self.assertEqual(caught.exception.place, (0, 0, 0))
            else:
                self.assertIsNone(grammar.check(tree))

    def test_random_trees(self):
        for seed in range(200):
            rnd = samples.chance(seed)
            rows = samples.grammar_rows(rnd, 3)
            grammar = Grammar("r", rows)
            tree = ("r", "", samples.small_tree(rnd, 4, ["a", "b", "c"], [""])[2])
            role = {kind: role for kind, role, _ in rows}
            inner = {kind: kinds for kind, _, kinds in rows}
            nodes = dict(oracles.nodes_of(tree))
            strange = [
                place for place, node in nodes.items() if place and (
                    role[nodes[place[:-1]][0]] in ("root", "ref") if isinstance(node, str)
                    else node[0] not in inner[nodes[place[:-1]][0]])
            ]
            if strange:
                with self.assertRaises(Strange) as caught:
                    grammar.check(tree)
                self.assertEqual(caught.exception.place, strange[0])
            else:
                self.assertIsNone(grammar.check(tree))


class EveryTreeTest(unittest.TestCase):
    def test_held_against_a_slow_search(self):
        for seed in range(40):
            rnd = samples.chance(seed)
            kinds = rnd.randint(1, 3)
            rows = samples.grammar_rows(rnd, kinds)
            marks = rnd.choice((["", "x"], ["x"], ["y", "", "x"], [""]))
            grammar = Grammar("r", rows)
            for many in range(1, 5 if kinds < 3 and len(marks) < 3 else 4):
                told = list(grammar.every_tree(many, marks))
                self.assertEqual(told, oracles.trees_of(rows, "r", many, marks))

    def test_five_in_order_and_once(self):
        told = list(Grammar.usual().every_tree(5, ["", "b"]))
        self.assertTrue(all(one < two for one, two in zip(told, told[1:])))
        self.assertTrue(all(len(oracles.places_of(tree)) == 5 for tree in told))
        small = [("r", "root", ("b", "a")), ("a", "head", ("s",)), ("b", "block", ()),
                 ("s", "span", ("s",))]
        told = list(Grammar("r", small).every_tree(5, [""]))
        self.assertEqual(told, oracles.trees_of(small, "r", 5, [""]))

    def test_edges(self):
        usual = Grammar.usual()
        self.assertEqual(list(usual.every_tree(1, ["z", "", "a"])),
                         [("doc", "", ()), ("doc", "a", ()), ("doc", "z", ())])
        self.assertEqual(list(usual.every_tree(3, [])), [])
        self.assertEqual(list(Grammar("r", [("r", "root", ())]).every_tree(2, [""])), [])

    def test_first_ones_come_at_once(self):
        walk = Grammar.usual().every_tree(5, [a + b for a in "abcdefghij" for b in "abcdefghij"])
        self.assertEqual(next(walk)[0], "doc")
        self.assertIs(iter(walk), walk)

    def test_marks_stay_as_they_are(self):
        marks = ["b", "", "a"]
        walk = Grammar.usual().every_tree(1, marks)
        self.assertEqual(next(walk), ("doc", "", ()))
        self.assertEqual(marks, ["b", "", "a"])
        marks.clear()
        self.assertEqual(list(walk), [("doc", "a", ()), ("doc", "b", ())])


if __name__ == "__main__":
    unittest.main()
