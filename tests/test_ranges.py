"""[85] and laidforall/ranges.py."""

import itertools
import unittest

import pages
import samples
from test_families import searched_tellings
from laidforall.books import Book
from laidforall.composing import compose
from laidforall.errors import Strange
from laidforall.families import Family
from laidforall.ranges import Range

USUAL_PAIRS = [("par", ""), ("par", "x"), ("head", ""), ("head", "y"), ("par", "y")]

OTHER_PAIRS = [("h", ""), ("h", "x"), ("g", ""), ("i", "y"), ("g", "x")]


def small_faces(rnd):
    return [(rnd.randint(1, 2), rnd.randint(1, 2), {sign: (rnd.randint(1, 2), ()) for sign in "ab-" if rnd.random() < 0.5})
            for _ in range(3)]


def random_range(rnd, most=5):
    """A plan, pairs and tokens of a random range."""
    rows, root, every = rnd.choice(((pages.USUAL_ROWS, "doc", USUAL_PAIRS), (pages.OTHER_ROWS, "k", OTHER_PAIRS)))
    pairs = rnd.sample(every, rnd.randint(1, 3))
    kinds = [root] + [kind for kind, _ in pairs]
    lines = [samples.row(rnd, kinds, ["x", "y"], ("face", "size", "wide", "indent", "before", "drop"), 4)
             for _ in range(rnd.randint(0, most))]
    if rnd.random() < 0.7:
        lines = [line.replace("size 3", "size 1").replace("wide 2", "wide 1") for line in lines]
    joints = rnd.choice(([], ["a-b"], ["-"], ["b-a"]))
    book = Book(rnd.randint(3, 6), rnd.randint(2, 4), orphan=rnd.choice((0, 0, 3)), widow=rnd.choice((0, 0, 3)),
                keep=rnd.choice((0, 0, 3)), joint=rnd.choice((0, 1)), over=rnd.choice((1, 100)))
    tokens = rnd.sample(["a", "ab", "b", "aB", "bab"], rnd.randint(1, 3))
    return pages.Plan(rows, root, lines, small_faces(rnd), joints, book), pairs, tokens


def trees_of(root, pairs, tokens, length):
    """All trees of a range with so many tokens."""
    found = []
    for chosen in itertools.product(tokens, repeat=length):
        for cuts in itertools.product((False, True), repeat=length - 1):
            texts = [[chosen[0]]]
            for is_cut, token in zip(cuts, chosen[1:]):
                if is_cut:
                    texts.append([])
                texts[-1].append(token)
            for told in itertools.product(pairs, repeat=len(texts)):
                found.append((root, "", tuple(pair + ((" ".join(text),),) for pair, text in zip(told, texts))))
    return found


def plain_range(*lines, pairs=(("par", ""), ("head", "")), tokens=("a", "bb")):
    return Range(pages.usual_plan(lines, ["-"], Book(6, 4)).setting(), list(pairs), list(tokens))


class RangeTest(unittest.TestCase):
    def test_fields(self):
        setting = pages.usual_plan(["par: indent 1"], [], Book(6, 4)).setting()
        pairs, tokens = [("par", ""), ("head", "x")], ["a", "Bb"]
        trees = Range(setting, pairs, tokens)
        self.assertEqual((trees.pairs, trees.tokens), ([("par", ""), ("head", "x")], ["a", "Bb"]))
        self.assertIsInstance(trees.family, Family)
        self.assertEqual((trees.setting.sheet, trees.setting.book), (setting.sheet, setting.book))
        self.assertIsNot(trees.setting, setting)
        pairs.clear()
        tokens.clear()
        setting.book = Book(1, 1)
        self.assertEqual((trees.pairs, trees.tokens), ([("par", ""), ("head", "x")], ["a", "Bb"]))
        self.assertEqual(trees.setting.book, Book(6, 4))

    def test_cases_of_a_plain_range(self):
        trees = plain_range()
        shapes = ((1,), (1, 1))
        self.assertEqual(sorted(trees.family.cases), [(1, 0, 0, False, 1, 1, shapes), (1, 0, 0, True, 1, 1, shapes)])
        self.assertEqual(sorted(trees.family.firsts), [0, 1])
        self.assertEqual([sorted(inner) for inner in trees.family.follows], [[0, 1], [0, 1]])

    def test_conditions_on_elder_siblings(self):
        trees = plain_range("par: indent 2", "head + par: indent 0", "head + par + par: before 1",
                            "head + par + par + par: before 2")
        indents = []
        for text in ("hp", "hpp", "hppp", "hpppp", "ppp", "hhp", "php"):
            kinds = {"h": "head", "p": "par"}
            tree = ("doc", "", tuple((kinds[letter], "", ("a",)) for letter in text))
            telling = trees.telling_of(tree)
            indents.append([trees.family.cases[case][1:3] for case, _ in telling][-1])
            self.assertEqual(trees.tree_of(telling), tree)
        self.assertEqual(indents, [(0, 0), (2, 1), (2, 2), (2, 0), (2, 0), (0, 0), (0, 0)])
        self.assertEqual(len(trees.family.cases), 5)

    def befores(self, trees, text):
        """The room before the children that the letters of a text stand for."""
        kinds = {"h": "head", "p": "par"}
        tree = ("doc", "", tuple((kinds[letter], "", ("a",)) for letter in text))
        telling = trees.telling_of(tree)
        self.assertEqual(trees.tree_of(telling), tree)
        return [trees.family.cases[case][2] for case, _ in telling]

    def test_elder_siblings_and_the_root(self):
        for link in ("doc > ", "doc ", "* > ", "* "):
            trees = plain_range(f"{link}head + par: before 3", "head + head: before 1")
            self.assertEqual(self.befores(trees, "phpphhp"), [0, 0, 3, 0, 0, 1, 3])
        for link in ("doc.x > ", "par ", "doc doc ", "doc + "):
            trees = plain_range(f"{link}head + par: before 3")
            self.assertEqual(self.befores(trees, "php"), [0, 0, 0])

    def test_cases_that_differ_only_in_what_may_follow(self):
        trees = plain_range("head + par + par + par: before 4")
        self.assertEqual(self.befores(trees, "pppphpppphppp"), [0, 0, 0, 0, 0, 0, 0, 4, 0, 0, 0, 0, 4])
        self.assertEqual(len(trees.family.cases), 5)
        trees = plain_range("head + par: before 4")
        self.assertEqual(self.befores(trees, "php"), [0, 0, 4])
        self.assertEqual(len(trees.family.cases), 3)

    def test_what_makes_no_difference_makes_no_cases(self):
        for lines in (["par + par: drop 2"], ["em + par: indent 2"], ["par par: indent 2"], ["doc.x > par: indent 1"],
                      ["par + par + par: face 0"], ["note em: size 2", "par em: size 3"]):
            self.assertEqual(len(plain_range(*lines).family.cases), 2, lines)

    def test_the_root_hands_down(self):
        trees = plain_range("doc: size 2", "doc: indent 3", "doc > par: wide 1", "doc par: indent 1")
        told = {case[3]: case for case in trees.family.cases}
        self.assertEqual(told[True], (2, 0, 0, True, 2, 2, ((2,), (2, 2))))
        self.assertEqual(told[False], (2, 1, 0, False, 3, 3, ((3,), (3, 3))))

    def test_two_pairs_alike(self):
        trees = plain_range(pairs=[("par", ""), ("par", "x")])
        tree = ("doc", "", (("par", "x", ("a bb",)), ("par", "", ("bb",))))
        self.assertEqual(trees.tree_of(trees.telling_of(tree)), tree)
        self.assertEqual(len(set(trees.family.firsts)), 2)

    def test_trees_that_are_none(self):
        trees = plain_range()
        good = ("par", "", ("a",))
        for tree in (
                ("doc", "", ()), ("doc", "x", (good,)), ("par", "", (good,)), ("doc", "", (good, ("par", "x", ("a",)))),
                ("doc", "", (("par", "", ()),)), ("doc", "", (("par", "", ("c",)),)), ("doc", "", (("par", "", ("a ",)),)),
                ("doc", "", (("par", "", (" a",)),)), ("doc", "", (("par", "", ("a  bb",)),)),
                ("doc", "", (("par", "", ("a", ("em", "", ()))),)), ("doc", "", (("par", "", (("em", "", ("a",)),)),)),
                ("doc", "", ("a",)), ("doc", "", (good, "a")), ("doc", "", (("par", "", (" ",)),)),
                ("doc", "", (("em", "", ("a",)),)), ("doc", "", (("par", "", ("abb",)),))):
            with self.assertRaises(Strange) as caught:
                trees.telling_of(tree)
            self.assertEqual(caught.exception.place, (), tree)

    def test_trees_and_tellings(self):
        ways = set()
        for seed in range(50):
            rnd = samples.chance(seed)
            told, pairs, tokens = random_range(rnd)
            trees = Range(told.setting(), pairs, tokens)
            ways.add(len(trees.family.cases))
            for inner in trees.family.follows + (trees.family.firsts,):
                self.assertEqual(len(inner), len(set(inner)))
            for length in (1, 2, 3):
                tellings = list(trees.family.every_telling(length))
                found = [trees.tree_of(telling) for telling in tellings]
                self.assertEqual(sorted(found), sorted(trees_of(told.root, pairs, tokens, length)))
                for telling, tree in zip(tellings, found):
                    self.assertEqual(trees.telling_of(tree), telling)
                    galley = trees.family.galley_of(telling)
                    self.assertEqual(list(galley), pages.composed(told, tree))
                    self.assertEqual(galley, compose(trees.setting, tree))
        self.assertTrue({1, 2, 3, 4} <= ways)

    def test_every_telling_is_one_of_the_family(self):
        trees = plain_range("par: indent 2", "head + par: indent 0")
        self.assertEqual(list(trees.family.every_telling(3)), searched_tellings(trees.family, 3))

    def test_lists_that_are_changed_afterwards(self):
        trees = plain_range()
        tree = ("doc", "", (("par", "", ("a bb",)),))
        telling = trees.telling_of(tree)
        trees.pairs.clear()
        trees.tokens.clear()
        self.assertEqual(trees.tree_of(telling), tree)
        self.assertEqual(trees.telling_of(tree), telling)


if __name__ == "__main__":
    unittest.main()
