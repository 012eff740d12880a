"""[43] to [45] and laidforall/syllables.py."""

import unittest

import layouts
import samples
from test_joints import random_row
from laidforall.joints import Joints
from laidforall.syllables import heaviest_syllable, idle_joints, overflow, parting_word


def random_lines(rnd, letters, most=4):
    return [random_row(rnd, letters) for _ in range(rnd.randint(0, most))]


class PartingTest(unittest.TestCase):
    def search(self, first, second, letters):
        for word in layouts.words_up_to(letters, 6):
            gaps = [gap for gap in range(1, len(word))
                    if (gap in layouts.word_joints(first, word)) != (gap in layouts.word_joints(second, word))]
            if gaps:
                return word, gaps[0]
        return None

    def test_against_all_words(self):
        rnd = samples.chance(43)
        answers = set()
        for _ in range(60):
            letters = rnd.choice(("b", "ab", "ax", "ab"))
            first = random_lines(rnd, letters)
            second = list(first)
            if second and rnd.random() < 0.7:
                second[rnd.randrange(len(second))] = random_row(rnd, letters)
            else:
                rnd.shuffle(second)
            found = parting_word(Joints(first), Joints(second), letters)
            self.assertEqual(found, self.search(first, second, letters), (first, second))
            answers.add(found is None)
        self.assertEqual(answers, {False, True})

    def test_three_letters(self):
        rnd = samples.chance(143)
        answers = set()
        for _ in range(12):
            first = random_lines(rnd, "abc", 3)
            second = list(first)
            rnd.shuffle(second)
            if rnd.random() < 0.5:
                second.append(random_row(rnd, "abc"))
            found = parting_word(Joints(first), Joints(second), "abc")
            self.assertEqual(found, self.search(first, second, "abc"), (first, second))
            answers.add(found is None)
        self.assertEqual(answers, {False, True})
        self.assertEqual(parting_word(Joints(["c?a-?cb"]), Joints([]), "abc"), ("caaacb", 3))

    def test_the_last_of_six_letters(self):
        self.assertEqual(parting_word(Joints(["bab-aba"]), Joints([]), "ab"), ("bababa", 3))
        self.assertEqual(parting_word(Joints(["-"]), Joints(["?-"]), "ab"), None)
        self.assertEqual(parting_word(Joints([]), Joints(["-b", "-a."]), "ab"), ("aa", 1))
        self.assertIsNone(parting_word(Joints(["x-"]), Joints([]), "abc"))
        self.assertEqual(parting_word(Joints(["x-"]), Joints([]), "abx"), ("xa", 1))

    def test_idle_rows_against_all_words(self):
        rnd = samples.chance(44)
        seen = set()
        for letters, many in (("a", 10), ("ab", 40), ("abc", 4)):
            words = list(layouts.words_up_to(letters, 6))
            for _ in range(many):
                lines = random_lines(rnd, letters, 6)
                deciding = {layouts.joint_decider(lines, word, gap)
                            for word in words for gap in range(1, len(word))}
                idle = [at for at in range(len(lines)) if at not in deciding]
                self.assertEqual(idle_joints(Joints(lines), letters), idle)
                seen.add(bool(idle))
        self.assertEqual(seen, {False, True})

    def test_idle_rows_that_never_fit(self):
        joints = Joints(["x-a", ".-a", "-.", "a- no", "a-a", "-a"])
        self.assertEqual(idle_joints(joints, "ab"), [0, 1, 2, 4])
        self.assertEqual(idle_joints(joints, "a"), [0, 1, 2, 4, 5])
        self.assertEqual(idle_joints(Joints([]), "a"), [])


class HeaviestTest(unittest.TestCase):
    def assert_told(self, lines, letters, weight, found):
        """The told word has the told syllable, and that has the told weight."""
        told, syllable, word = found
        self.assertEqual(told, sum(weight[letter] for letter in syllable))
        self.assertIn(syllable, layouts.word_syllables(lines, word))
        self.assertTrue(set(word) <= set(letters))

    def test_against_all_words(self):
        rnd = samples.chance(45)
        answers = {False: 0, True: 0}
        for _ in range(150):
            letters = rnd.choice(("a", "ab", "ab"))
            lines = random_lines(rnd, letters, 3) + [rnd.choice(("-", "?-?", "a-", "-b", "a-b"))]
            weight = {letter: rnd.randint(1, 4) for letter in letters}
            found = heaviest_syllable(Joints(lines), letters, weight)
            parts = [part for word in layouts.words_up_to(letters, 8)
                     for part in layouts.word_syllables(lines, word)]
            best = max(sum(weight[letter] for letter in part) for part in parts)
            answers[found is None] += 1
            if found is None:
                # Syllables of any number of letters show among long words.
                self.assertGreater(max(len(part) for part in parts), 5)
            else:
                self.assert_told(lines, letters, weight, found)
                self.assertGreaterEqual(found[0], best)
                if found[0] > best:
                    self.assertGreater(len(found[2]), 8)
        self.assertGreater(min(answers.values()), 20)

    def test_known_ones(self):
        weight = {"a": 1, "b": 2, "c": 3}
        self.assertIsNone(heaviest_syllable(Joints([]), "a", weight))
        self.assertIsNone(heaviest_syllable(Joints(["a-a"]), "ab", weight))
        self.assertEqual(heaviest_syllable(Joints(["-"]), "abc", weight)[:2], (3, "c"))
        self.assertEqual(heaviest_syllable(Joints(["-"]), "ab", weight)[:2], (2, "b"))
        self.assertIsNone(heaviest_syllable(Joints(["ab-"]), "ab", weight))
        found = heaviest_syllable(Joints(["?c-", "b- no", "-a"]), "a", weight)
        self.assertEqual(found[:2], (1, "a"))

    def test_a_syllable_that_needs_its_word(self):
        # Only behind a and ahead of b may the two letters stay together.
        lines = ["a?-?b no", "-"]
        weight = {"a": 5, "b": 1}
        found = heaviest_syllable(Joints(lines), "ab", weight)
        self.assert_told(lines, "ab", weight, found)
        best = max(sum(weight[letter] for letter in part) for word in layouts.words_up_to("ab", 9)
                   for part in layouts.word_syllables(lines, word))
        self.assertEqual(found[0], best)

    def test_weights_stay(self):
        weight = {"a": 2, "b": 1}
        heaviest_syllable(Joints(["-"]), "ab", weight)
        overflow(Joints(["-"]), "ab", weight, hyphen=1, room=3, first=3)
        self.assertEqual(weight, {"a": 2, "b": 1})


class OverflowTest(unittest.TestCase):
    def search(self, lines, letters, weight, most, **told):
        for word in layouts.words_up_to(letters, most):
            if not layouts.can_be_set(lines, word, weight, **told):
                return word
        return None

    def test_against_all_words(self):
        rnd = samples.chance(46)
        lengths = set()
        for _ in range(300):
            letters = rnd.choice(("a", "ab", "ab", "bc"))
            lines = random_lines(rnd, letters, 3) + [rnd.choice(("-", "-", "?-?", "-b", "??-"))]
            weight = {letter: rnd.randint(1, 3) for letter in letters}
            told = {"hyphen": rnd.choice((0, 0, 1, 2)), "room": rnd.randint(1, 8), "first": rnd.randint(0, 9)}
            found = overflow(Joints(lines), letters, weight, **told)
            most = 9 if len(letters) == 1 else 8
            searched = self.search(lines, letters, weight, most, **told)
            if found is None or len(found) > most:
                self.assertIsNone(searched, (lines, letters, weight, told))
            else:
                self.assertEqual(found, searched)
            if found is not None and len(found) > most:
                self.assertFalse(layouts.can_be_set(lines, found, weight, **told))
            lengths.add(len(found) if found else 0)
        self.assertTrue({0, 1, 2, 3, 4, 5} <= lengths)

    def test_equal_and_hardly_unequal_widths(self):
        one = {"a": 2, "b": 3}
        every = Joints(["-"])
        self.assertIsNone(overflow(every, "ab", one, hyphen=0, room=3, first=3))
        self.assertEqual(overflow(every, "ab", one, hyphen=0, room=3, first=2), "b")
        self.assertEqual(overflow(every, "ab", one, hyphen=0, room=2, first=3), "ab")
        self.assertEqual(overflow(every, "ab", one, hyphen=1, room=3, first=4), "aba")
        self.assertIsNone(overflow(every, "ab", one, hyphen=1, room=4, first=4))
        self.assertEqual(overflow(every, "ab", one, hyphen=1, room=4, first=3), "ba")

    def test_first_above_and_below_the_room(self):
        none = Joints([])
        self.assertEqual(overflow(none, "a", {"a": 1}, hyphen=0, room=1, first=5), "aaaaaa")
        self.assertEqual(overflow(none, "a", {"a": 1}, hyphen=0, room=30, first=2), "aaa")
        self.assertEqual(overflow(none, "ab", {"a": 2, "b": 1}, hyphen=0, room=30, first=4), "aaa")
        self.assertEqual(overflow(none, "a", {"a": 1}, hyphen=0, room=-3, first=-7), "a")
        self.assertEqual(overflow(Joints(["-"]), "a", {"a": 1}, hyphen=0, room=0, first=2), "aaa")
        self.assertEqual(overflow(Joints(["-"]), "a", {"a": 1}, hyphen=0, room=1, first=0), "a")

    def test_large_numbers(self):
        weight = {"a": 1, "b": 2, "c": 3}
        lines = ["a-b", "b-c", "c-a", "?a-a?", "b-b"]
        found = overflow(Joints(lines), "abc", weight, hyphen=1, room=30, first=29)
        self.assertEqual(found, "c" * 10)
        self.assertIsNone(overflow(Joints(["a-?", "-"]), "abc", weight, hyphen=3, room=30, first=30))


if __name__ == "__main__":
    unittest.main()
