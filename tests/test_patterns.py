"""[21] and laidforall/patterns.py."""

import unittest

import samples
import oracles
from laidforall.errors import BadPattern, NoPlace
from laidforall.patterns import Pattern
from laidforall.trees import all_places

TREE = ("doc", "", (
    ("head", "", ("h",)),
    "t",
    ("par", "big", (
        "a", ("em", "x", ("b", ("em", "", ("c",)))), ("note", "", (("em", "y", ()),)),
    )),
    ("par", "", (("em", "", ()),)),
))


def matches(text, tree=TREE):
    """The places of the elements that the pattern matches."""
    pattern = Pattern(text)
    return [place for place in all_places(tree) if pattern(tree, place)]


class ReadingTest(unittest.TestCase):
    def test_accepted(self):
        for text in ("a", "*", "a.b", "*.b", "a b", "a > b", "a + b", "* * * *",
                     "abcdefgh.abcdefgh", "a.b > *.c + d e", "a + a + a + a"):
            self.assertEqual(str(Pattern(text)), text)

    def test_refused(self):
        for text in ("", " ", "a ", " a", "a  b", "a >", "> a", "a > > b", "a >b", "a> b", "a+b",
                     "a  > b", "a >  b", "a.", ".a", "a.b.c", "a.*", "**", "a*", "*a", "A", "a1",
                     "abcdefghi", "a.abcdefghi", "a, b", "a b c d e", "a > b + c d > e", "a\n",
                     "a\tb", "a ~ b", "+", ">", "+ a", "a +", "a + > b", "\u00e4", "a.B", "a: b"):
            with self.assertRaises(BadPattern) as caught:
                Pattern(text)
            self.assertEqual(caught.exception.text, text)

    def test_numbers(self):
        told = {"a": (1, 0, 1), "*": (1, 0, 0), "*.m": (1, 1, 0), "a.m": (1, 1, 1),
                "a.m > * + b c.n": (4, 2, 3), "* *.x": (2, 1, 0)}
        for text, numbers in told.items():
            pattern = Pattern(text)
            self.assertEqual((len(pattern), pattern.asked, pattern.named), numbers, text)

    def test_equal(self):
        self.assertEqual(Pattern("a > b"), Pattern("a > b"))
        self.assertNotEqual(Pattern("a > b"), Pattern("a b"))
        self.assertNotEqual(Pattern("a"), "a")
        self.assertFalse(Pattern("a") == "a")


class MatchingTest(unittest.TestCase):
    def test_one_test(self):
        self.assertEqual(matches("*"), list(all_places(TREE)))
        self.assertEqual(matches("em"), [(2, 1), (2, 1, 1), (2, 2, 0), (3, 0)])
        self.assertEqual(matches("em.x"), [(2, 1)])
        self.assertEqual(matches("*.big"), [(2,)])
        self.assertEqual(matches("em.big"), [])

    def test_links(self):
        self.assertEqual(matches("doc em"), [(2, 1), (2, 1, 1), (2, 2, 0), (3, 0)])
        self.assertEqual(matches("par.big em"), [(2, 1), (2, 1, 1), (2, 2, 0)])
        self.assertEqual(matches("par.big > em"), [(2, 1)])
        self.assertEqual(matches("em em"), [(2, 1, 1)])
        self.assertEqual(matches("head + par"), [(2,)])
        self.assertEqual(matches("par + par"), [(3,)])
        self.assertEqual(matches("head + *"), [(2,)])
        self.assertEqual(matches("* + doc"), [])
        self.assertEqual(matches("* > doc"), [])
        self.assertEqual(matches("* doc"), [])

    def test_several_links(self):
        self.assertEqual(matches("doc > par.big + par > em"), [(3, 0)])
        self.assertEqual(matches("head + par em"), [(2, 1), (2, 1, 1), (2, 2, 0)])
        self.assertEqual(matches("head + par > em + note"), [(2, 2)])
        self.assertEqual(matches("em.x + note > em"), [(2, 2, 0)])

    def test_the_nearest_is_not_the_right_one(self):
        inner = ("a", "", (("a", "", (("b", "", ()),)),))
        tree = ("r", "", (("x", "", ()), inner))
        # The nearer of the two elements a stands behind nothing.
        self.assertEqual(matches("x + a b", tree), [(1, 0, 0)])
        self.assertEqual(matches("r > a b", tree), [(1, 0, 0)])
        self.assertEqual(matches("a > a b", tree), [(1, 0, 0)])
        self.assertEqual(matches("x + a > b", tree), [])
        deep = ("a", "m", (("a", "", (("a", "", (("a", "", ()),)),)),))
        self.assertEqual(matches("a.m > a a", deep), [(0, 0), (0, 0, 0)])
        self.assertEqual(matches("a.m > a a a", deep), [(0, 0, 0)])
        self.assertEqual(matches("a a a a", deep), [(0, 0, 0)])

    def test_random_patterns(self):
        for seed in range(500):
            rnd = samples.chance(seed)
            tree = samples.small_tree(rnd, rnd.randint(1, 6), ["a", "b"], ["", "x"])
            text = samples.pattern(rnd, ["a", "b"], ["x"])
            told = [place for place in all_places(tree) if oracles.match(text, tree, place)]
            self.assertEqual(matches(text, tree), told, (text, tree))

    def test_true_and_false(self):
        self.assertIs(Pattern("doc")(TREE, ()), True)
        self.assertIs(Pattern("par")(TREE, ()), False)
        self.assertIs(Pattern("doc > par")(TREE, (2,)), True)
        self.assertIs(Pattern("par > par")(TREE, (2,)), False)

    def test_no_element(self):
        for text in ("*", "zz", "doc > par + em"):
            for place in ((1,), (2, 0), (4,), (2, 0, 0), (0, 0, 1), (9, 9), (2, 1, 1, 0)):
                with self.assertRaises(NoPlace) as caught:
                    Pattern(text)(TREE, place)
                self.assertEqual(caught.exception.place, place)


if __name__ == "__main__":
    unittest.main()
