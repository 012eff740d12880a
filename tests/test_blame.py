"""[90], [91], laidforall/facts.py and laidforall/blame.py."""

import itertools
import unittest

import oracles
import pages
import samples
from laidforall.blame import least_supports, mover, stands_as, supports
from laidforall.books import Book
from laidforall.errors import NoSign, TooLarge
from laidforall.facts import facts_of, keep_facts
from laidforall.marking import read_tree
from laidforall.placing import placed_signs
from laidforall.sheets import Sheet

LINES = ["par: indent 2", "em.x: drop 1", "head + par.y: before 1"]

TREE = read_tree("[doc.r [head a[see.z]][par.y b[em.x c [em d]][note.q n[em.x m]]]]")


class FactsTest(unittest.TestCase):
    def setUp(self):
        self.setting = pages.usual_plan(LINES).setting()
        self.marks = [("mark", place) for place in ((), (0, 1), (1,), (1, 1), (1, 2), (1, 2, 1))]

    def test_facts_in_order(self):
        self.assertEqual(facts_of(self.setting, TREE), [("row", 0), ("row", 1), ("row", 2)] + self.marks)
        self.assertEqual(facts_of(pages.usual_plan().setting(), read_tree("[doc [par x]]")), [])
        self.assertEqual(facts_of(self.setting, read_tree("[doc [par.a]]")),
                         [("row", 0), ("row", 1), ("row", 2), ("mark", (0,))])

    def test_all_and_none_kept(self):
        sheet, tree = keep_facts(self.setting, TREE, tuple(facts_of(self.setting, TREE)))
        self.assertEqual((sheet, tree), (self.setting.sheet, TREE))
        sheet, tree = keep_facts(self.setting, TREE, ())
        self.assertEqual((sheet, tree), (Sheet([]), read_tree("[doc [head a[see]][par b[em c [em d]][note n[em m]]]]")))
        self.assertEqual(list(self.setting.sheet), LINES)

    def test_some_kept(self):
        sheet, tree = keep_facts(self.setting, TREE, (("row", 2), ("mark", (1,)), ("mark", (1, 2, 1))))
        self.assertEqual(list(sheet), [LINES[2]])
        self.assertEqual(tree, read_tree("[doc [head a[see]][par.y b[em c [em d]][note n[em.x m]]]]"))
        sheet, tree = keep_facts(self.setting, TREE, (("row", 0), ("row", 1), ("mark", ())))
        self.assertEqual(list(sheet), LINES[:2])
        self.assertEqual(tree, read_tree("[doc.r [head a[see]][par b[em c [em d]][note n[em m]]]]"))

    def test_lists_are_new(self):
        facts_of(self.setting, TREE).clear()
        self.assertEqual(len(facts_of(self.setting, TREE)), 9)


class Search:
    """The placed signs with all sets of facts."""

    def __init__(self, told, tree):
        self.marks = [place for place, node in oracles.nodes_of(tree) if not isinstance(node, str) and node[1]]
        self.facts = [("row", at) for at in range(len(told.lines))] + [("mark", place) for place in self.marks]
        self.signs = {}
        for kept in self.sets(range(len(self.facts))):
            facts = [self.facts[at] for at in kept]
            plan = told.with_lines([line for at, line in enumerate(told.lines) if ("row", at) in facts])
            found = pages.placed(plan, self.bare(tree, (), facts))
            self.signs[kept] = {sign[0]: sign for sign in found}
        self.every = tuple(range(len(self.facts)))

    def sets(self, indexes):
        indexes = list(indexes)
        return [some for size in range(len(indexes) + 1) for some in itertools.combinations(indexes, size)]

    def bare(self, node, place, facts):
        if isinstance(node, str):
            return node
        children = tuple(self.bare(child, place + (at,), facts) for at, child in enumerate(node[2]))
        return node[0], node[1] if ("mark", place) in facts else "", children

    def supports(self, origin, kept):
        whole = self.signs[self.every][origin]
        return all(signs[origin] == whole for told, signs in self.signs.items() if set(kept) <= set(told))

    def least(self, origin):
        good = [kept for kept in self.sets(self.every) if self.supports(origin, kept)]
        return [kept for kept in good if len(kept) == len(good[0])]


class BlameTest(unittest.TestCase):
    def random_case(self, seed):
        rnd = samples.chance(seed)
        while True:
            told = pages.random_plan(rnd, 4)
            tree = pages.random_tree(rnd, told, 7)
            marks = [node[1] for _, node in oracles.nodes_of(tree) if not isinstance(node, str) and node[1]]
            origins = [sign[0] for sign in pages.placed(told, tree)] if 2 < len(marks) + len(told.lines) <= 5 else []
            if origins:
                return rnd, told, tree, origins

    def test_against_all_sets_of_facts(self):
        sizes = set()
        for seed in range(30):
            rnd, told, tree, origins = self.random_case(seed)
            setting = told.setting()
            search = Search(told, tree)
            facts = search.facts
            self.assertEqual(facts_of(setting, tree), facts)
            for origin in rnd.sample(origins, min(3, len(origins))):
                if origin[2] == 1:
                    continue
                for kept in rnd.sample(search.sets(search.every), min(6, len(search.signs))):
                    told_facts = tuple(facts[at] for at in kept)
                    self.assertEqual(stands_as(setting, tree, origin, told_facts), search.signs[kept][origin])
                    holds = search.supports(origin, kept)
                    self.assertIs(supports(setting, tree, origin, told_facts), holds)
                    self.assert_mover(search, setting, tree, origin, kept, holds)
                least = search.least(origin)
                sizes.add(len(least[0]))
                self.assertEqual(least_supports(setting, tree, origin),
                                 [tuple(facts[at] for at in kept) for kept in least])
        self.assertGreater(len(sizes), 2)

    def assert_mover(self, search, setting, tree, origin, kept, holds):
        found = mover(setting, tree, origin, tuple(search.facts[at] for at in kept))
        if holds:
            self.assertIsNone(found)
            return
        indexes = tuple(search.facts.index(fact) for fact in found)
        self.assertEqual(indexes, tuple(sorted(set(indexes))))
        self.assertTrue(set(kept) <= set(indexes))
        self.assertNotEqual(search.signs[indexes][origin], search.signs[search.every][origin])

    def test_several_least_supports(self):
        # Either row alone keeps the sign where it is.
        setting = pages.usual_plan(["par: indent 1", "head: size 2", "par: indent 1"]).setting()
        tree = read_tree("[doc [par x]]")
        origin = ((0, 0), 0, 0)
        self.assertEqual(least_supports(setting, tree, origin), [(("row", 0),), (("row", 2),)])
        self.assertTrue(supports(setting, tree, origin, (("row", 0), ("row", 1))))
        self.assertFalse(supports(setting, tree, origin, (("row", 1),)))
        self.assertIn(mover(setting, tree, origin, (("row", 1),)), [(("row", 1),)])
        self.assertIsNone(mover(setting, tree, origin, (("row", 2),)))

    def test_what_comes_back_with_more_facts(self):
        # Without both rows the sign stands where it does with both, but not with only one of them.
        setting = pages.usual_plan(["par: indent 2", "par: indent 0 firm"]).setting()
        tree = read_tree("[doc [par x]]")
        origin = ((0, 0), 0, 0)
        self.assertFalse(supports(setting, tree, origin, ()))
        self.assertEqual(mover(setting, tree, origin, ()), (("row", 0),))
        self.assertEqual(least_supports(setting, tree, origin), [(("row", 1),)])

    def test_least_support_of_nothing(self):
        setting = pages.usual_plan(["head: indent 2"]).setting()
        self.assertEqual(least_supports(setting, read_tree("[doc [par x]]"), ((0, 0), 0, 0)), [()])

    def test_signs_in_all_roles(self):
        setting = pages.usual_plan(["note: drop 1", "em.x: size 2"], [], Book(9, 9)).setting()
        tree = read_tree("[doc [par a[em.x b][see][note n[em c]][fig f]][head h]]")
        for origin in (((0, 0), 0, 0), ((0, 1, 0), 0, 0), ((0, 2), 0, 0), ((0, 3, 0), 0, 0), ((0, 3, 1, 0), 0, 0),
                       ((0, 4, 0), 0, 0), ((1, 0), 0, 0)):
            found = stands_as(setting, tree, origin, (("row", 0), ("row", 1), ("mark", (0, 1))))
            self.assertIn(found, placed_signs(setting, tree))
            self.assertEqual(found[0], origin)
        facts = (("row", 0), ("row", 1), ("mark", (0, 1)))
        self.assertEqual(least_supports(setting, tree, ((0, 1, 0), 0, 0)), [facts[1:]])
        self.assertEqual(least_supports(setting, tree, ((0, 2), 0, 0)), [facts[1:]])
        self.assertEqual(least_supports(setting, tree, ((0, 3, 0), 0, 0)), [facts[:1]])

    def test_signs_of_spans_in_notes_have_drops_of_their_own(self):
        setting = pages.usual_plan(["note: drop 1"], [], Book(9, 9)).setting()
        tree = read_tree("[doc [par a[note n[em c]]]]")
        self.assertEqual(least_supports(setting, tree, ((0, 1, 1, 0), 0, 0)), [()])

    def bad_origins(self):
        """A tree with a hyphen, and origins that are none of a sign that is asked for."""
        tree = read_tree("[doc [par xxa[em b c]][par  [note n]][head d]]")
        return tree, [((0, 0), 2, 1), ((0, 0), 3, 0), ((0, 0), -1, 0), ((0, 1, 0), 1, 0), ((0, 1), 0, 0), ((0,), 0, 0),
                      ((), 0, 0), ((1, 1, 0), 0, 0), ((1, 0), 0, 0), ((9,), 0, 0), ((2, 0), 1, 0), ((2, 0), 0, 1),
                      ((2, 0), 0, 2), ((0, 0, 0), 0, 0)]

    def test_no_sign(self):
        tree, origins = self.bad_origins()
        for lines in (["par: face 1"], ["par: face 1"] * 7):
            setting = pages.usual_plan(lines, ["a-b"], Book(4, 9)).setting()
            self.assertIn(origins[0], [sign[0] for sign in placed_signs(setting, tree)])
            for origin in origins:
                for call in (lambda: stands_as(setting, tree, origin, ()), lambda: supports(setting, tree, origin, ()),
                             lambda: least_supports(setting, tree, origin), lambda: mover(setting, tree, origin, ())):
                    with self.assertRaises(NoSign) as caught:
                        call()
                    self.assertEqual(caught.exception.origin, origin)

    def test_too_many_facts(self):
        tree = read_tree("[doc [par.x y]]")
        origin = ((0, 0), 0, 0)
        setting = pages.usual_plan(["par: indent 1"] * 5).setting()
        self.assertEqual(len(least_supports(setting, tree, origin)), 5)
        setting = pages.usual_plan(["par: indent 1"] * 6).setting()
        facts = tuple(facts_of(setting, tree))
        for call in (lambda: supports(setting, tree, origin, facts), lambda: least_supports(setting, tree, origin),
                     lambda: mover(setting, tree, origin, ())):
            with self.assertRaises(TooLarge) as caught:
                call()
            self.assertEqual(caught.exception.many, 7)
        self.assertEqual(stands_as(setting, tree, origin, ()), (origin, 1, 0, 0, 0, 1, "y"))
        self.assertEqual(stands_as(setting, tree, origin, facts[3:]), (origin, 1, 1, 0, 0, 1, "y"))


if __name__ == "__main__":
    unittest.main()
