"""[89] and laidforall/mending.py."""

import itertools
import unittest

import pages
import samples
from test_fronts import PROMISES
from test_ranges import plain_range, random_range
from laidforall.books import Book
from laidforall.errors import BadBook, BadLine, BadPattern, BadValue, NoSuchNumber, TooLarge
from laidforall.judging import judge_range
from laidforall.mending import changed_range, mends
from laidforall.ranges import Range


def state(trees):
    """What a range is made of."""
    return list(trees.setting.sheet), trees.setting.book, trees.pairs, trees.tokens


class ChangedTest(unittest.TestCase):
    def setUp(self):
        self.lines = ["par: indent 2", "head: size 2", "par.x: before 1"]
        self.pairs = [("par", ""), ("head", ""), ("par", "x")]
        self.trees = plain_range(*self.lines, pairs=self.pairs)
        self.book = self.trees.setting.book

    def changed(self, *changes, choice=None):
        told = list(changes)
        found = changed_range(self.trees, told, tuple(range(len(told))) if choice is None else choice)
        self.assertIsInstance(found, Range)
        self.assertEqual(told, list(changes))
        self.assertEqual(state(self.trees), (self.lines, self.book, self.pairs, ["a", "bb"]))
        return state(found)

    def sheet(self, *changes):
        return self.changed(*changes)[0]

    def test_no_change(self):
        self.assertEqual(self.changed(), (self.lines, self.book, self.pairs, ["a", "bb"]))
        self.assertEqual(self.changed(("strike", 0), ("strike", 9), choice=()), state(self.trees))
        self.assertIsNot(changed_range(self.trees, [], ()), self.trees)

    def test_strikes_mean_the_sheet_as_it_was(self):
        self.assertEqual(self.sheet(("strike", 0)), self.lines[1:])
        self.assertEqual(self.sheet(("strike", 0), ("strike", 2)), [self.lines[1]])
        self.assertEqual(self.sheet(("strike", 2), ("strike", 0)), [self.lines[1]])
        self.assertEqual(self.sheet(("strike", 1), ("strike", 1)), [self.lines[0], self.lines[2]])
        self.assertEqual(self.sheet(("strike", 0), ("strike", 1), ("strike", 2)), [])

    def test_rows_are_added_at_the_end(self):
        self.assertEqual(self.sheet(("add", "*: wide 1")), self.lines + ["*: wide 1"])
        self.assertEqual(self.sheet(("add", "*: wide 1"), ("strike", 0), ("add", "*: wide 1"), ("add", "head: face 1")),
                         self.lines[1:] + ["*: wide 1", "*: wide 1", "head: face 1"])

    def test_marks(self):
        def pairs(*changes):
            return self.changed(*changes)[2]
        self.assertEqual(pairs(("mark", "head", "", "z")), [("par", ""), ("head", "z"), ("par", "x")])
        self.assertEqual(pairs(("mark", "par", "", "x")), [("par", "x"), ("head", "")])
        self.assertEqual(pairs(("mark", "par", "x", "")), [("par", ""), ("head", "")])
        self.assertEqual(pairs(("mark", "head", "x", "y"), ("mark", "em", "", "y")), self.pairs)
        self.assertEqual(pairs(("mark", "par", "", "y"), ("mark", "par", "y", "z")), [("par", "z"), ("head", ""), ("par", "x")])
        self.assertEqual(pairs(("mark", "par", "", "x"), ("mark", "par", "x", "z")), [("par", "z"), ("head", "")])
        self.assertEqual(pairs(("mark", "par", "x", "y"), ("mark", "par", "", "x")), [("par", "x"), ("head", ""), ("par", "y")])

    def test_books(self):
        self.assertEqual(self.changed(("book", "room", 5), ("book", "widow", 3), ("book", "full", True))[1],
                         Book(5, 4, widow=3, full=True))
        self.assertEqual(self.changed(("book", "room", 5), ("book", "room", 3))[1], Book(3, 4))

    def test_all_kinds_together(self):
        found = self.changed(("mark", "par", "x", "y"), ("add", "par.y: wide 1"), ("book", "height", 3), ("strike", 2))
        self.assertEqual(found, (self.lines[:2] + ["par.y: wide 1"], Book(6, 3), [("par", ""), ("head", ""), ("par", "y")],
                                 ["a", "bb"]))

    def test_a_choice_of_the_changes(self):
        changes = [("strike", 0), ("add", "x"), ("book", "room", 5), ("mark", "head", "", "z")]
        self.assertEqual(self.changed(*changes, choice=(0, 2))[:2], (self.lines[1:], Book(5, 4)))

    def assert_raises(self, error, told, *changes, cause=None):
        with self.assertRaises(error) as caught:
            self.changed(*changes)
        self.assertEqual(list(vars(caught.exception).values()), [told])
        if cause is not None:
            self.assertIsInstance(caught.exception.__cause__, cause)

    def test_changes_that_cannot_be_made(self):
        self.assert_raises(BadLine, 1, ("add", "par indent 1"), cause=BadPattern)
        self.assert_raises(BadLine, 1, ("add", "par: indent 10"), cause=BadValue)
        for index in (-1, 3, 12):
            self.assert_raises(NoSuchNumber, index, ("strike", index))
        self.assert_raises(BadBook, "room", ("book", "room", 0))
        self.assert_raises(BadBook, "full", ("book", "full", 1))
        self.assert_raises(BadBook, "joint", ("book", "joint", True))
        for name in ("color", "self", "fields", ""):
            self.assert_raises(BadBook, name, ("book", name, 1))

    def test_the_first_change_in_order_is_told(self):
        wrong = {BadLine: (("add", "x"), 1), NoSuchNumber: (("strike", 7), 7), BadBook: (("book", "keep", -1), "keep")}
        for first, second in itertools.permutations(wrong, 2):
            self.assert_raises(first, wrong[first][1], ("mark", "par", "", "q"), wrong[first][0], wrong[second][0])
        # An added row is none that can be struck.
        self.assert_raises(NoSuchNumber, 3, ("add", "par: wide 1"), ("strike", 3))

    def test_too_many_rows(self):
        lines = ["par: indent 2"] * 11
        trees = plain_range(*lines)
        add = ("add", "head: wide 1")
        self.assertEqual(len(changed_range(trees, [add], (0,)).setting.sheet), 12)
        self.assertEqual(len(changed_range(trees, [add, add, ("strike", 3)], (0, 1, 2)).setting.sheet), 12)
        for changes, error, told in (([add, add], TooLarge, 13), ([add, add, add, ("strike", 0)], TooLarge, 13),
                                     ([add, add, ("strike", 11)], NoSuchNumber, 11), ([add, add, ("add", "")], BadLine, 1),
                                     ([add, add, ("book", "room", 0)], BadBook, "room")):
            with self.assertRaises(error) as caught:
                changed_range(trees, changes, tuple(range(len(changes))))
            self.assertEqual(list(vars(caught.exception).values()), [told])


def random_changes(rnd, told, pairs):
    """Random changes with which each choice gives a range as it may be passed."""
    found = []
    kinds = [told.root] + [kind for kind, _ in pairs]
    for _ in range(rnd.randint(1, 4)):
        way = rnd.randrange(4)
        if way == 0 and told.lines:
            found.append(("strike", rnd.randrange(len(told.lines))))
        elif way == 1:
            rows = ["*: indent 0 firm", "*: size 1 firm", "*: wide 0 firm", "*: before 0 firm"]
            rows.append(samples.row(rnd, kinds, ["x"], ("indent", "before"), 2))
            found.append(("add", rnd.choice(rows)))
        elif way == 2:
            kind, mark = rnd.choice(pairs)
            found.append(("mark", kind, rnd.choice((mark, "x")), rnd.choice(("", "x", "y"))))
        else:
            name, value = rnd.choice((("room", 6), ("room", 5), ("height", 4), ("orphan", 6), ("widow", 6), ("keep", 6)))
            found.append(("book", name, value))
    return found


class MendsTest(unittest.TestCase):
    def searched(self, told, pairs, tokens, promise, changes):
        """All choices that mend with the fewest changes, each range built anew."""
        good = []
        for choice in itertools.chain.from_iterable(
                itertools.combinations(range(len(changes)), size) for size in range(len(changes) + 1)):
            if good and len(good[0]) < len(choice):
                break
            made = [changes[index] for index in choice]
            struck = {change[1] for change in made if change[0] == "strike"}
            lines = [line for index, line in enumerate(told.lines) if index not in struck]
            lines += [change[1] for change in made if change[0] == "add"]
            fields = {change[1]: change[2] for change in made if change[0] == "book"}
            others = list(pairs)
            for change in made:
                if change[0] == "mark":
                    others = [(pair[0], change[3]) if pair == change[1:3] else pair for pair in others]
            others = list(dict.fromkeys(others))
            plan = told.with_lines(lines).with_book(told.book.changed(**fields))
            if judge_range(Range(plan.setting(), others, tokens), promise):
                good.append(choice)
        return good

    def test_against_all_choices(self):
        sizes = {}
        for seed in range(70):
            rnd = samples.chance(seed)
            told, pairs, tokens = random_range(rnd, 3)
            changes = random_changes(rnd, told, pairs)
            promise = rnd.choice((("fits",), ("fits",), ("loose", 3), rnd.choice(PROMISES)))
            trees = Range(told.setting(), pairs, tokens)
            given = list(changes)
            found = mends(trees, promise, changes)
            self.assertEqual(changes, given)
            self.assertEqual(found, self.searched(told, pairs, tokens, promise, changes))
            size = len(found[0]) if found else None
            sizes[size] = sizes.get(size, 0) + 1
        self.assertTrue({None, 0, 1} <= set(sizes), sizes)

    def test_several_mends(self):
        # A word of six letters, and an indent of 1.
        trees = plain_range("par: indent 1", pairs=[("par", "")], tokens=["AAAAAA"])
        promise = ("fits",)
        self.assertFalse(judge_range(trees, promise))
        changes = [("add", "par: face 1"), ("strike", 0), ("add", "par: indent 0"), ("mark", "par", "", "x"),
                   ("add", "par.x: indent 0")]
        self.assertEqual(mends(trees, promise, changes), [(1,), (2,)])
        self.assertEqual(mends(trees, promise, [changes[0], changes[3], changes[4]]), [(1, 2)])
        self.assertEqual(mends(trees, promise, [changes[4], changes[0], changes[3]]), [(0, 2)])
        self.assertEqual(mends(trees, promise, [changes[0], changes[3]]), [])
        self.assertEqual(mends(trees, promise, []), [])

    def test_a_promise_that_is_kept_anyhow(self):
        trees = plain_range(tokens=["a"])
        self.assertEqual(mends(trees, ("fits",), [("strike", 0)][:0]), [()])
        self.assertEqual(mends(trees, ("fits",), [("add", "par: size 3")]), [()])

    def test_five_changes(self):
        trees = plain_range(*["par: indent 1"] * 5, pairs=[("par", "")], tokens=["AAAAAA"])
        changes = [("strike", index) for index in range(5)]
        self.assertEqual(mends(trees, ("fits",), changes), [(0, 1, 2, 3, 4)])
        found = mends(trees, ("fits",), changes)
        found.clear()
        self.assertEqual(mends(trees, ("fits",), changes), [(0, 1, 2, 3, 4)])


if __name__ == "__main__":
    unittest.main()
