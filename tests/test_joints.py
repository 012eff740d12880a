"""[40] to [42] and laidforall/joints.py."""

import itertools
import unittest

import layouts
import samples
from laidforall.errors import BadJoint, TooLarge
from laidforall.joints import Joints


class ReadingTest(unittest.TestCase):
    def assert_bad(self, *lines, text):
        with self.assertRaises(BadJoint) as caught:
            Joints(list(lines))
        self.assertEqual(caught.exception.text, text)

    def test_good_rows(self):
        lines = ["un-?", ".a-b no", "-", "- no", "???-???", ".??-??.", ".-.", "abc-"]
        joints = Joints(lines)
        self.assertEqual((len(joints), list(joints)), (8, lines))
        self.assertEqual((len(Joints([])), list(Joints([]))), (0, []))

    def test_every_short_part(self):
        for size in range(5):
            for chars in itertools.product("a?.", repeat=size):
                part = "".join(chars)
                good = size <= 3 and "." not in part[1:]
                if good:
                    self.assertEqual(len(Joints([part + "-"])), 1)
                    self.assertEqual(len(Joints([part + "-a no"])), 1)
                else:
                    self.assert_bad(part + "-", text=part + "-")
                good = size <= 3 and "." not in part[:-1]
                if good:
                    self.assertEqual(len(Joints(["-" + part])), 1)
                    self.assertEqual(len(Joints(["a-" + part + " no"])), 1)
                else:
                    self.assert_bad("-" + part, text="-" + part)

    def test_bad_rows(self):
        for line in ("", "ab", "a--b", "a-b-c", "a -b", "a- b", "A-b", "a-B", "a-b  no", "a-b no ",
                     "a-b No", "a-b no no", "a-bnoo", " no", "no", "abcd-", "-abcd", "a*-b", "1-a",
                     "a-b\n", "\u00e4-b", "a-b\u00e4", "a\n-b", "a-b yes", "a-no no no"):
            self.assert_bad(line, text=line)
        self.assertEqual(len(Joints(["a-no no"])), 1)

    def test_the_first_bad_row_and_too_many_rows(self):
        self.assert_bad("a-b", "x", "y", text="x")
        self.assertEqual(len(Joints(["a-b"] * 8)), 8)
        for many in (9, 12):
            for line in ("a-b", "bad"):
                with self.assertRaises(TooLarge) as caught:
                    Joints([line] * many)
                self.assertEqual(caught.exception.many, many)

    def test_what_is_passed_and_returned_is_copied(self):
        lines = ["a-b"]
        joints = Joints(lines)
        lines.append("b-a")
        self.assertEqual(list(joints), ["a-b"])
        joints.gaps("ab").append(7)
        joints("ab").append("x")
        self.assertEqual((joints.gaps("ab"), joints("ab")), ([1], ["a", "b"]))
        self.assertEqual(lines, ["a-b", "b-a"])


class FittingTest(unittest.TestCase):
    def test_ends_of_words(self):
        cases = (
            (".a-b", "ab", [1]), (".a-b", "aab", []), ("a-b.", "ab", [1]), ("a-b.", "aba", []),
            (".??-", "abab", [2]), ("-??.", "abab", [2]), ("-?.", "abab", [3]),
            (".?-", "abab", [1]), ("???-", "abab", [3]), ("-???", "abab", [1]), ("-", "abab", [1, 2, 3]),
            ("-", "a", []), (".-", "ab", []), ("-.", "ab", []), (".ab-", "abab", [2]),
            ("ab-", "abab", [2]), ("-ab", "ababab", [2, 4]), ("b?-a", "abbaa", [3, 4]),
            ("bb-a", "abba", [3]), ("aab-", "ab", []),
        )
        for line, word, gaps in cases:
            self.assertEqual(Joints([line]).gaps(word), gaps, (line, word))

    def test_the_first_row_that_fits_decides(self):
        joints = Joints(["a-b no", "a-?", "-b", "b- no", "-"])
        self.assertEqual([joints.decider("abba", gap) for gap in (1, 2, 3)], [0, 2, 3])
        self.assertEqual(joints.gaps("abba"), [2])
        self.assertEqual(joints.decider("aab", 1), 1)
        self.assertEqual(joints.decider("ccc", 1), 4)
        self.assertIsNone(Joints(["x-y"]).decider("ab", 1))
        self.assertIsNone(Joints([]).decider("ab", 1))

    def test_tokens(self):
        joints = Joints(["-"])
        self.assertEqual(joints("abc"), ["a", "b", "c"])
        self.assertEqual(joints("z"), ["z"])
        for token in ("abC", "ab.", "a-b", "ab1", "~", "A", "12", "a'b", "x?", "."):
            self.assertEqual(joints(token), [token])
        self.assertEqual(Joints(["un-?", "-do no"])("undone"), ["un", "done"])

    def test_against_sliding(self):
        rnd = samples.chance(40)
        words = list(layouts.words_up_to("ab", 5))
        for _ in range(150):
            lines = [random_row(rnd) for _ in range(rnd.randint(1, 4))]
            joints = Joints(lines)
            for word in words:
                for gap in range(1, len(word)):
                    self.assertEqual(joints.decider(word, gap), layouts.joint_decider(lines, word, gap))
                self.assertEqual(joints.gaps(word), layouts.word_joints(lines, word))
                self.assertEqual(joints(word), layouts.word_syllables(lines, word))


def random_row(rnd, letters="ab"):
    left = "".join(rnd.choice(letters + "?") for _ in range(rnd.choice((0, 1, 1, 2, 3))))
    right = "".join(rnd.choice(letters + "?") for _ in range(rnd.choice((0, 1, 1, 2, 3))))
    if left and rnd.random() < 0.2:
        left = "." + left[1:]
    if right and rnd.random() < 0.2:
        right = right[:-1] + "."
    return f"{left}-{right}{rnd.choice(('', '', ' no'))}"


if __name__ == "__main__":
    unittest.main()
