"""[86] to [88] and laidforall/judging.py."""

import itertools
import unittest

import layouts
import oracles
import pages
import samples
from test_fronts import PROMISES
from test_ranges import plain_range, random_range, trees_of
from laidforall.books import Book
from laidforall.composing import compose
from laidforall.grammars import Grammar
from laidforall.judging import BrokenTree, judge_range, lay_apart, overfull_tree
from laidforall.marking import read_tree, write_tree
from laidforall.overfilling import Scales
from laidforall.placing import placed_signs
from laidforall.promises import first_breaking
from laidforall.ranges import Range
from laidforall.sheets import Sheet
from laidforall.situations import first_parting
from laidforall.syllables import overflow
from laidforall.verdicts import Broken, Kept, is_closed


def tokens_in(tree):
    return sum(len(text.split()) for _, text in oracles.nodes_of(tree) if isinstance(text, str))


class RangeTest(unittest.TestCase):
    def test_against_all_small_trees(self):
        verdicts = {True: 0, False: 0}
        for seed in range(90):
            rnd = samples.chance(seed)
            told, pairs, tokens = random_range(rnd)
            promise = rnd.choice(PROMISES)
            trees = Range(told.setting(), pairs, tokens)
            verdict = judge_range(trees, promise)
            verdicts[bool(verdict)] += 1
            most = 3 if len(pairs) * len(tokens) < 5 else 2
            breaking = self.first_breaking_size(told, trees, pairs, tokens, promise, most)
            if verdict:
                self.assertIsInstance(verdict, Kept)
                self.assertIsNone(breaking)
                self.assertTrue(is_closed(trees.family, told.book, promise, verdict.table))
                continue
            self.assertIsInstance(verdict, BrokenTree)
            self.assertEqual(verdict.tree, trees.tree_of(verdict.telling))
            size = tokens_in(verdict.tree)
            self.assertTrue(size == breaking or breaking is None and size > most)
            galley = compose(trees.setting, verdict.tree) if size < 20 else trees.family.galley_of(verdict.telling)
            self.assertEqual(verdict.laying, first_breaking(galley, told.book, promise))
            self.assertIsNotNone(verdict.laying)
        self.assertGreater(min(verdicts.values()), 15)

    def first_breaking_size(self, told, trees, pairs, tokens, promise, most):
        for length in range(1, most + 1):
            for tree in trees_of(told.root, pairs, tokens, length):
                if first_breaking(compose(trees.setting, tree), told.book, promise) is not None:
                    return length
        return None

    def test_conditions_on_elder_siblings(self):
        # Only a third paragraph is set so wide that its words do not fit.
        trees = plain_range("par + par + par: wide 3", pairs=[("par", ""), ("head", "")], tokens=["xxxx"])
        trees.setting.book = Book(6, 4)
        verdict = judge_range(trees, ("fits",))
        self.assertFalse(verdict)
        self.assertEqual([child[0] for child in verdict.tree[2]], ["par"] * 3)
        self.assertTrue(judge_range(plain_range(tokens=["xxxx"]), ("fits",)))

    def test_broken_trees(self):
        tree = ("doc", "", (("par", "", ("a",)),))
        broken = BrokenTree(((0, (0,)),), ((1, 0),), tree)
        self.assertEqual((broken.telling, broken.laying, broken.tree), (((0, (0,)),), ((1, 0),), tree))
        self.assertIs(bool(broken), False)
        self.assertEqual(BrokenTree.__bases__, (Broken,))
        self.assertIn("__init__", vars(BrokenTree))


def without_texts(tree):
    return tree[0], tree[1], tuple(without_texts(child) for child in tree[2] if not isinstance(child, str))


class ApartTest(unittest.TestCase):
    def assert_apart(self, told, others, found, size):
        """The sign is placed differently, and the sheets part in a tree with so many elements."""
        tree, origin = found
        Grammar(told.root, told.rows).check(tree)
        self.assertEqual(read_tree(write_tree(tree)), tree)
        bare = without_texts(tree)
        self.assertEqual(len(oracles.places_of(bare)), size)
        tables = [oracles.reasons(lines, bare) for lines in (told.lines, others)]
        parted = [name for place in tables[0] for name in oracles.PROPERTY_NAMES
                  if tables[0][place][name][0] != tables[1][place][name][0]
                  and told.roles[oracles.node_of(bare, place)[0]] in oracles.COUNTING[name]]
        self.assertTrue(parted)
        self.assertEqual(origin[-1], 0)
        stands = [{sign[0]: sign for sign in pages.placed(told.with_lines(lines), tree)}[origin]
                  for lines in (told.lines, others)]
        self.assertNotEqual(*stands)

    def test_each_property_and_role(self):
        for kind, name in itertools.product(("head", "par", "em", "note", "fig", "see"), oracles.PROPERTY_NAMES):
            told = pages.usual_plan(book=Book(3, 4))
            others = [f"{kind}: {name} 2"]
            found = lay_apart(told.setting(), Sheet(others))
            if told.roles[kind] in oracles.COUNTING[name]:
                self.assert_apart(told, others, found, 2 if kind in ("head", "par") else 3)
            else:
                self.assertIsNone(found)

    def test_deep_elements(self):
        for pattern, size in (("note em", 4), ("note em em > see", 6), ("see + see + see + em", 6), ("fig + note", 4),
                              ("head see + em em", 5), ("note.x em.y", 4), ("head + par.x > fig em", 5)):
            told = pages.usual_plan(["em: size 2"], book=Book(1, 1))
            for value in ("face 1", "size 3", "wide 1", "drop 3"):
                others = ["em: size 2", f"{pattern}: {value} firm"]
                self.assert_apart(told, others, lay_apart(told.setting(), Sheet(others)), size)

    def test_sheets_that_are_alike(self):
        setting = pages.usual_plan(["em: face 1", "par: size 2"]).setting()
        for lines in (["em: face 1", "par: size 2"], ["par: size 2", "em: face 1"], ["em: face 1", "par: size 2", "em: indent 3"],
                      ["em: face 2", "em: face 1", "par: size 2", "par: drop 3"]):
            self.assertIsNone(lay_apart(setting, Sheet(lines)))
        self.assertEqual(list(setting.sheet), ["em: face 1", "par: size 2"])

    def test_random_sheets(self):
        answers = {True: 0, False: 0}
        for seed in range(150):
            rnd = samples.chance(seed)
            told = pages.random_plan(rnd)
            others = list(told.lines)
            if others and rnd.random() < 0.7:
                others.pop(rnd.randrange(len(others)))
            else:
                kinds = [kind for kind, _, _ in told.rows]
                others = others + [samples.row(rnd, kinds, ["x", "y"], oracles.PROPERTY_NAMES)]
            setting = told.setting()
            found = lay_apart(setting, Sheet(others))
            parting = first_parting(setting.sheet, Sheet(others), setting.grammar)
            self.assertEqual(found is None, parting is None)
            answers[found is None] += 1
            if found is not None:
                self.assert_apart(told, others, found, len(oracles.places_of(parting[0])))
                # The other way about, too.
                self.assert_apart(told.with_lines(others), told.lines,
                                  lay_apart(told.with_lines(others).setting(), Sheet(told.lines)),
                                  len(oracles.places_of(parting[0])))
            else:
                tree = pages.random_tree(rnd, told, 8)
                other = told.with_lines(others).setting()
                self.assertEqual(placed_signs(setting, tree, numbers=[7, 12]),
                                 placed_signs(other, tree, numbers=[7, 12]))
        self.assertGreater(min(answers.values()), 20)


class Overfull:
    """Whether words overflow in the elements of small trees, from the words of point 88."""

    def __init__(self, told, letters):
        self.told = told
        self.letters = letters
        self.known = {}

    def word_overflows(self, style, outer, indent):
        weight = {letter: pages.width(self.told, style, letter) for letter in self.letters}
        key = (tuple(weight.values()), pages.width(self.told, outer, "-"), indent)
        if key not in self.known:
            room = self.told.book.room
            self.known[key] = any(not layouts.can_be_set(self.told.joints, word, weight, key[1], room, room - indent)
                                  for word in layouts.words_up_to(self.letters, 7 if len(self.letters) == 1 else 5))
        return self.known[key]

    def in_tree(self, tree):
        table = pages.styles(self.told, tree)
        for place in table:
            owner = place
            while self.role(tree, owner) == "span":
                owner = owner[:-1]
            if self.role(tree, owner) != "root":
                indent = table[owner][4] if self.role(tree, owner) in ("block", "head") else 0
                if self.word_overflows(table[place], table[owner], indent):
                    return True
        return False

    def role(self, tree, place):
        return self.told.roles[oracles.node_of(tree, place)[0]]


class OverfullTest(unittest.TestCase):
    def assert_overfull(self, told, letters, tree):
        """A plain tree of at most two tokens in which something is always too wide."""
        self.assertEqual(read_tree(write_tree(tree)), tree)
        Grammar(told.root, told.rows).check(tree)
        roles = [told.roles[node[0]] for _, node in oracles.nodes_of(tree) if not isinstance(node, str)]
        self.assertNotIn("ref", roles)
        texts = [node for _, node in oracles.nodes_of(tree) if isinstance(node, str)]
        self.assertLessEqual(sum(len(text.split(" ")) for text in texts), 2)
        words = [word for text in texts for word in text.split(" ")]
        self.assertTrue(all(word and set(word) <= set(letters) for word in words))
        told_sets = pages.sets(told, tree)
        inner = [one for outer in told_sets for one in outer.inner.values()]
        held = [word for one in told_sets + inner for word in one.tokens]
        self.assertEqual(sorted(held), sorted(words))
        self.assertTrue(any(self.is_always_too_wide(told, one) for one in told_sets + inner))

    def is_always_too_wide(self, told, one):
        """Whether no way leads from the first piece to the last over lines that are not too wide."""
        block = one.block()
        page = layouts.Page([block], told.book, ())
        many = len(block[4])
        reached = [True] + [False] * many
        for start, end in itertools.combinations(range(many + 1), 2):
            if reached[start] and page.width((start, end)) <= told.book.room:
                reached[end] = True
        return not reached[many]

    def test_block_elements_with_indents(self):
        told = pages.usual_plan(["par: indent 3", "head: indent 2"], ["-"], Book(4, 9))
        self.assertEqual(overfull_tree(told.setting(), "a"), read_tree("[doc [par aa]]"))
        told = pages.usual_plan(["par: indent 2", "head: indent 2"], ["-"], Book(4, 9))
        self.assertIsNone(overfull_tree(told.setting(), "a"))
        told = pages.usual_plan(["em + par: indent 3", "par + par: indent 3"], ["-"], Book(4, 9))
        tree = overfull_tree(told.setting(), "a")
        self.assertEqual(tree, read_tree("[doc [par][par aa]]"))
        self.assert_overfull(told, "a", tree)

    def test_spans_with_the_hyphen_and_indent_of_their_block_element(self):
        faces = [(1, 1, {"a": (1, ())}), (1, 1, {"a": (2, ()), "-": (9, ())}), (1, 1, {"-": (3, ())})]
        told = pages.usual_plan(["em: face 1"], ["-"], Book(4, 9), faces)
        self.assertIsNone(overfull_tree(told.setting(), "a"))
        told = pages.usual_plan(["em: face 1", "par: indent 2", "par: face 0"], ["-"], Book(4, 9), faces)
        tree = overfull_tree(told.setting(), "a")
        self.assertEqual(tree, read_tree("[doc [par [em aa]]]"))
        told = pages.usual_plan(["em: face 1", "par: face 2"], ["-"], Book(4, 9), faces)
        self.assert_overfull(told, "a", overfull_tree(told.setting(), "a"))
        self.assertIsNone(overfull_tree(told.with_book(Book(5, 9)).setting(), "a"))

    def test_faces_of_span_and_block_element_together(self):
        # Wide letters with a narrow hyphen fit, and so do narrow letters with a wide one.
        faces = [(1, 1, {"a": (3, ())}), (1, 1, {"-": (3, ())}), (1, 1, {})]
        told = pages.usual_plan(["par.x: face 1", "par.x em.y: face 0"], ["-"], Book(5, 9), faces)
        self.assertEqual(overfull_tree(told.setting(), "a"), read_tree("[doc [par.x [em.y aa]]]"))
        self.assertIsNone(overfull_tree(told.with_book(Book(6, 9)).setting(), "a"))
        told = pages.usual_plan(["note.x: face 1", "note.x em.y: face 0"], ["-"], Book(5, 9), faces)
        self.assertEqual(overfull_tree(told.setting(), "a"), read_tree("[doc [par [note.x [em.y aa]]a]]"))

    def test_notes_and_figures_have_no_indent(self):
        for kind in ("note", "fig"):
            told = pages.usual_plan([f"{kind}: indent 9", f"{kind} em: wide 1"], ["-"], Book(3, 9))
            self.assertIsNone(overfull_tree(told.setting(), "ab"))
            told = pages.usual_plan([f"{kind}.x: size 2"], ["-"], Book(3, 9))
            tree = overfull_tree(told.setting(), "ab")
            self.assertEqual(without_texts(tree), read_tree(f"[doc [par [{kind}.x]]]"))
            self.assert_overfull(told, "ab", tree)
            told = pages.usual_plan([f"{kind} em: size 3"], ["-"], Book(3, 9))
            tree = overfull_tree(told.setting(), "ab")
            self.assertEqual(without_texts(tree), read_tree(f"[doc [par [{kind} [em]]]]"))
            self.assert_overfull(told, "ab", tree)

    def test_styles_that_do_not_come_together(self):
        # A wide span, and a block element with an indent, but never both.
        lines = ["par.x: indent 2", "par em: wide 1", "par.x em: wide 0"]
        told = pages.usual_plan(lines, ["-"], Book(4, 9))
        self.assertIsNone(overfull_tree(told.setting(), "a"))
        told = pages.usual_plan(lines[:2], ["-"], Book(4, 9))
        self.assert_overfull(told, "a", overfull_tree(told.setting(), "a"))

    def test_no_ref_elements(self):
        told = pages.usual_plan(["see + em: size 3"], ["-"], Book(3, 9))
        self.assertIsNone(overfull_tree(told.setting(), "a"))
        told = pages.usual_plan(["note + em: size 3"], ["-"], Book(3, 9))
        self.assert_overfull(told, "a", overfull_tree(told.setting(), "a"))

    def test_rooms_up_to_30(self):
        for room in (1, 2, 15, 29, 30):
            told = pages.usual_plan([], [], Book(room, 9))
            tree = overfull_tree(told.setting(), "ab")
            self.assertEqual(tree[2][0][2], ("a" * (room + 1),))
            self.assert_overfull(told, "ab", tree)
        told = pages.usual_plan(["*: size 3", "*: wide 3", "par: indent 9"], ["-"], Book(30, 9),
                                [(1, 1, {"b": (4, ()), "-": (3, ())})] * 3)
        self.assert_overfull(told, "ab", overfull_tree(told.setting(), "ab"))
        told = pages.usual_plan(["*: size 3", "*: wide 3", "par: indent 9"], ["-"], Book(30, 9))
        self.assertIsNone(overfull_tree(told.setting(), "ab"))

    def test_grammars_without_some_roles(self):
        rows = [("r", "root", ("p",)), ("p", "head", ("s",)), ("s", "ref", ()), ("n", "note", ("e",)), ("e", "span", ())]
        told = pages.Plan(rows, "r", ["e: size 3"], [(1, 1, {})] * 3, ["-"], Book(2, 5))
        self.assertIsNone(overfull_tree(told.setting(), "a"))
        empty = pages.Plan([("r", "root", ())], "r", [], [(1, 1, {})] * 3, [], Book(1, 5))
        self.assertIsNone(overfull_tree(empty.setting(), "a"))
        self.assertIsNone(lay_apart(empty.setting(), Sheet.of("r: size 2")))

    def random_plan(self, rnd):
        kinds = ["doc", "head", "par", "em", "note", "fig"]
        marks = rnd.choice((["x"], ["x", "y"]))
        lines = pages.random_lines(rnd, kinds, marks, 5, ("face", "size", "wide", "indent"))
        faces = [(1, 1, {sign: (rnd.randint(1, 3), ()) for sign in "ab-" if rnd.random() < 0.6}) for _ in range(3)]
        joints = rnd.choice((["-"], ["-"], ["a-a no", "-"], ["b-"], ["?a-b no", "-"]))
        book = Book(rnd.choice((2, 3, 4, 5, 6, 7, 9, 11)), 9)
        return pages.usual_plan(lines, joints, book, faces)

    def test_against_all_small_trees(self):
        answers = {True: 0, False: 0}
        grammar = Grammar.usual()
        small = [tree for size in (2, 3, 4) for tree in grammar.every_tree(size, [""]) if "see" not in write_tree(tree)]
        for seed in range(150):
            rnd = samples.chance(seed)
            told = self.random_plan(rnd)
            letters = rnd.choice(("a", "ab"))
            setting = told.setting()
            found = overfull_tree(setting, letters)
            answers[found is None] += 1
            if found is not None:
                self.assert_overfull(told, letters, found)
                continue
            search = Overfull(told, letters)
            for tree in small:
                self.assertFalse(search.in_tree(tree), tree)
            for _ in range(40):
                tree = self.marked(rnd, rnd.choice(small))
                self.assertFalse(search.in_tree(tree), tree)
        self.assertGreater(min(answers.values()), 30)

    def marked(self, rnd, tree):
        return tree[0], rnd.choice(("", "x", "y")), tuple(self.marked(rnd, child) for child in tree[2])

    def test_measures_in_any_order(self):
        rnd = samples.chance(88)
        for rows in (["-"], ["a-"], ["a-a no", "-"], ["?b-"]):
            told = pages.usual_plan([], rows, Book(9, 9))
            scales = Scales(told.setting(), "ab")
            for _ in range(60):
                widths = (rnd.randint(1, 4), rnd.randint(1, 4))
                hyphen, first = rnd.randint(0, 7), rnd.randint(4, 9)
                wanted = overflow(told.setting().joints, "ab", dict(zip("ab", widths)), hyphen=hyphen, room=9, first=first)
                self.assertEqual(scales.word((widths, hyphen, first)), wanted)

    def test_a_full_sheet(self):
        lines = [f"*.{letter}w *.{letter}x *.{letter}y *.{letter}z: {value}" for letter, value in
                 zip("abcdefghijkl", ("size 2", "wide 2", "indent 9", "face 1") * 3)]
        faces = [(1, 1, {}), (1, 1, {"a": (3, ()), "-": (3, ())}), (1, 1, {})]
        # A letter of width 3 * 2 + 2, with a plain hyphen, as all rows need four elements in one another.
        told = pages.usual_plan(lines, ["-"], Book(9, 9), faces)
        self.assertIsNone(overfull_tree(told.setting(), "ab"))
        told = told.with_book(Book(8, 9))
        self.assert_overfull(told, "ab", overfull_tree(told.setting(), "ab"))


if __name__ == "__main__":
    unittest.main()
