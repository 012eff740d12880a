"""[13], [14] and laidforall/marking.py."""

import unittest

import oracles
import samples
from laidforall.errors import BadMarks, TooLarge
from laidforall.marking import read_tree, write_tree

EXAMPLE = ("par", "big", ("a ", ("em", "", ("b",)), ("note", "", ())))


def bad_at(text):
    """The field of the BadMarks that a text raises, or None."""
    try:
        read_tree(text)
    except BadMarks as error:
        return error.at
    return None


class WritingTest(unittest.TestCase):
    def test_examples(self):
        self.assertEqual(write_tree(EXAMPLE), "[par.big a [em b][note]]")
        self.assertEqual(write_tree(("a", "", ())), "[a]")
        self.assertEqual(write_tree(("a", "b", ())), "[a.b]")
        self.assertEqual(write_tree(("a", "", (" ",))), "[a  ]")
        self.assertEqual(write_tree(("a", "b", (("c", "", ()), "."))), "[a.b [c].]")

    def test_read_what_is_written(self):
        for seed in range(300):
            tree = samples.tree(samples.chance(seed), 60)
            self.assertEqual(read_tree(write_tree(tree)), tree)

    def test_all_signs(self):
        tree = ("a", "", (oracles.SIGNS,))
        self.assertEqual(read_tree(write_tree(tree)), tree)
        self.assertEqual(len(oracles.SIGNS), 91)


class ReadingTest(unittest.TestCase):
    def test_examples_of_the_document(self):
        self.assertEqual(read_tree("[par.big a [em b][note]]"), EXAMPLE)
        self.assertEqual(bad_at("[par a [em.]]"), 11)

    def test_named_edges(self):
        told = {
            "": 0, "a": 0, " [a]": 0, "[": 1, "[]": 1, "[a": 2, "[a.": 3, "[a.]": 3, "[A]": 1,
            "[a ": 3, "[a ]": 3, "[a  ]": None, "[a b": 4, "[a]]": 3, "[a] ": 3, "[a][b]": 3,
            "[abcdefgh]": None, "[abcdefghi]": 9, "[a.abcdefgh]": None, "[a.abcdefghi]": 11,
            "[a.b.c]": 4, "[a%]": 2, "[a b%]": 4, "[a b\\]": 4, "[a \x1f]": 3, "[a \x7f]": 3,
            "[a ~]": None, "[a b\n]": 4, "[a\t]": 2, "[\u00e4]": 1, "[a \u00e4]": 3, "[a1]": 2,
            "[a [b]": 6, "[a [b ]]": 6, "[a[b]]": 2, "[a b]c": 5, "[a . ]": None, "[a.b  [c]]": None,
        }
        for text, at in told.items():
            self.assertEqual(bad_at(text), at, text)

    def test_spoilt_written_forms(self):
        for seed in range(250):
            rnd = samples.chance(seed)
            text = write_tree(samples.tree(rnd, 5, 4))
            for spoilt in self.spoilt(rnd, text):
                at = bad_at(spoilt)
                if oracles.is_written_form(spoilt):
                    self.assertIsNone(at, spoilt)
                    self.assertEqual(write_tree(read_tree(spoilt)), spoilt)
                else:
                    self.assertEqual(at, oracles.longest_beginning(spoilt), spoilt)

    def spoilt(self, rnd, text):
        """Texts with a character taken out, put in, exchanged, doubled, and cut ones."""
        at = rnd.randrange(len(text))
        odd = rnd.choice("[]. aZ%\\\n~09")
        other = rnd.randrange(len(text))
        turned = list(text)
        turned[at], turned[other] = turned[other], turned[at]
        return [
            text[:at] + text[at + 1:],
            text[:at] + odd + text[at:],
            text[:at] + odd + text[at + 1:],
            text[:at] + text[at] + text[at:],
            text[:at],
            text + odd,
            "".join(turned),
        ]

    def test_odd_strings(self):
        rnd = samples.chance(7)
        for _ in range(1500):
            text = "".join(rnd.choice("[[]]. ab%") for _ in range(rnd.randrange(9)))
            if oracles.is_written_form(text):
                self.assertEqual(write_tree(read_tree(text)), text)
            else:
                self.assertEqual(bad_at(text), oracles.longest_beginning(text), text)


class BoundsTest(unittest.TestCase):
    def assert_too_large(self, text, many):
        with self.assertRaises(TooLarge) as caught:
            read_tree(text)
        self.assertEqual(caught.exception.many, many)

    def test_many_elements(self):
        self.assertEqual(len(read_tree("[a " + "[b]" * 59 + "]")[2]), 59)
        self.assert_too_large("[a " + "[b]" * 60 + "]", 61)
        self.assert_too_large("[a " + "[b x]y" * 200 + "]", 201)

    def test_deep_elements(self):
        deep = "[a " * 12 + "[a]" + "]" * 12
        self.assertEqual(write_tree(read_tree(deep)), deep)
        self.assert_too_large("[a " * 13 + "[a]" + "]" * 13, 14)

    def test_deep_texts(self):
        deep = "[a " * 12 + "x" + "]" * 12
        self.assertEqual(write_tree(read_tree(deep)), deep)
        self.assert_too_large("[a " * 13 + "x" + "]" * 13, 13)
        self.assert_too_large("[a " + "[a " * 12 + "x" + "]" * 12 + "[b]" * 3 + "]", 16)

    def test_deep_ones_behind_others(self):
        self.assert_too_large("[a " + "[b]" * 9 + "[a " * 12 + "x" + "]" * 13, 22)
        text = "[a " + "[b [c]]" * 9 + "[a " * 11 + "x" + "]" * 12
        self.assertEqual(write_tree(read_tree(text)), text)

    def test_many_and_deep(self):
        self.assert_too_large("[a " * 61 + "x" + "]" * 61, 61)

    def test_any_size_is_refused_without_trouble(self):
        self.assert_too_large("[a " * 50000 + "x" + "]" * 50000, 50000)
        self.assertEqual(bad_at("[a " * 50000), 150000)

    def test_bad_marks_come_first(self):
        self.assertEqual(bad_at("[a " + "[b]" * 60), 183)
        self.assertEqual(bad_at("[a " * 20 + "x" + "]" * 21), 81)


if __name__ == "__main__":
    unittest.main()
