"""[95] and laidforall/pagenumbers.py."""

import itertools
import unittest

import oracles
import pages
import samples
from laidforall.books import Book
from laidforall.composing import compose
from laidforall.errors import Strange, TooLarge
from laidforall.grammars import Grammar
from laidforall.marking import read_tree
from laidforall.numbering import Best
from laidforall.pagenumbers import number_places, settled, true_numbers

# The digit 2 is wide, and the digit 3 very wide.
FACES = [(1, 1, {"2": (3, ()), "3": (9, ())})] * 3


def refs(told, tree):
    return [place for place, node in oracles.nodes_of(tree)
            if not isinstance(node, str) and told.roles[node[0]] == "ref"]


def page_numbers(told, tree, numbers):
    """The true numbers, from the placed signs and columns of a search."""
    held = pages.sets(told, tree, numbers)
    blocks = [one.block() for one in held]
    laying = Best(compose(told.setting(), tree, numbers), told.book).nth()
    starts = {}
    for at, (_, lines) in enumerate(pages.columns(blocks, laying)):
        for index, start, _ in lines:
            if start == 0:
                starts[index] = at // told.book.columns + 1
    found = []
    for place in refs(told, tree):
        mark = oracles.node_of(tree, place)[1]
        named = [at for at, one in enumerate(held) if oracles.node_of(tree, one.place)[1] == mark != ""]
        found.append(starts[named[0]] if named else 0)
    return tuple(found)


def settled_lists(told, tree, most):
    """All lists of numbers up to a greatest one that come true."""
    many = len(refs(told, tree))
    return [numbers for numbers in itertools.product(range(most + 1), repeat=many)
            if page_numbers(told, tree, numbers) == numbers]


class PlacesTest(unittest.TestCase):
    def test_places(self):
        tree = read_tree("[doc [head a[see]][par [see.x][em [see][em [see]]][note [em [see]]]]]")
        self.assertEqual(number_places(Grammar.usual(), tree),
                         [(0, 1), (1, 0), (1, 1, 0), (1, 1, 1, 0), (1, 2, 0, 0)])
        self.assertEqual(number_places(Grammar.usual(), read_tree("[doc [par x]]")), [])
        grammar = Grammar("k", pages.OTHER_ROWS)
        self.assertEqual(number_places(grammar, read_tree("[k [g [a][b [a.x]]]]")), [(0, 0), (0, 1, 0)])


class TrueTest(unittest.TestCase):
    def true(self, text, numbers=(), book=None):
        told = pages.usual_plan(book=book or Book(4, 1))
        return true_numbers(told.setting(), read_tree(text), numbers)

    def test_pages_of_first_lines(self):
        text = "[doc [par [see.c][see.b][see.a]][par.a xx yy zz][head.b x][par.c x]]"
        self.assertEqual(self.true(text), (6, 5, 2))
        self.assertEqual(self.true(text, book=Book(4, 1, columns=2)), (3, 3, 1))
        self.assertEqual(self.true(text, book=Book(40, 9)), (1, 1, 1))

    def test_numbers_change_pages(self):
        text = "[doc [par x [see.a] xx][par.a y]]"
        self.assertEqual(self.true(text), (3,))
        self.assertEqual(self.true(text, [77]), (3,))
        self.assertEqual(self.true(text, [777]), (4,))

    def test_the_first_that_is_not_left_out(self):
        text = "[doc [par.a][par.a  ][par x][head.a y][par.a [see.a]]]"
        self.assertEqual(self.true(text), (2,))

    def test_refs_that_refer_to_none(self):
        text = "[doc [par.a [see][see.b][em.c [see.c]][see.d]][par.d][head.e [em.b x]]]"
        self.assertEqual(self.true(text, [5, 6, 7, 8]), (0, 0, 0, 0))

    def test_refs_in_notes_and_in_what_is_left_out(self):
        text = "[doc [par [note [em [see.a]]]][par x[fig [em [see.a][see.b]]]][par.a x][head.b y]]"
        self.assertEqual(self.true(text), (2, 2, 3))

    def test_none(self):
        self.assertEqual(self.true("[doc [par x]]"), ())
        self.assertEqual(self.true("[doc]"), ())


class SettledTest(unittest.TestCase):
    def test_without_refs(self):
        setting = pages.usual_plan().setting()
        for text in ("[doc]", "[doc [par.a x]]"):
            self.assertEqual(settled(setting, read_tree(text)), [()])

    def test_refs_that_refer_to_none(self):
        setting = pages.usual_plan().setting()
        self.assertEqual(settled(setting, read_tree("[doc [par.b [see][see.a][em [see.c]]][par.a]]")), [(0, 0, 0)])

    def test_no_list_comes_true(self):
        # With the wide number 1 the block stands on page 2, and with 2 on page 1.
        told = pages.usual_plan(book=Book(4, 2), faces=[(1, 1, {"1": (3, ())})] * 3)
        tree = read_tree("[doc [par x [see.a]][par.a y]]")
        self.assertEqual([true_numbers(told.setting(), tree, [number]) for number in (1, 2)], [(2,), (1,)])
        self.assertEqual(settled(told.setting(), tree), [])

    def test_several_lists_come_true(self):
        told = pages.usual_plan(book=Book(4, 2), faces=FACES)
        tree = read_tree("[doc [par x [see.a]][par.a y]]")
        self.assertEqual(settled(told.setting(), tree), [(1,), (2,)])
        seen = set()
        for text in ("[doc [par x [see.a]][par xx [see.a]][par.a y]]", "[doc [par x [see.a] xx [see.b] y][par.a y][par.b z]]",
                     "[doc [par x[see.a]][par xx xx [see.b]x][par.a y][par.b z]]"):
            for height in (1, 2, 3):
                told = pages.usual_plan(book=Book(4, height), faces=FACES)
                tree = read_tree(text)
                found = settled(told.setting(), tree)
                self.assertEqual(found, settled_lists(told, tree, 7))
                seen.add(len(found))
        self.assertTrue({0, 1} <= seen)

    def test_against_all_lists(self):
        many = {}
        seed = 0
        while sum(many.values()) < 60:
            seed += 1
            rnd = samples.chance(seed)
            told = pages.random_plan(rnd, 2)
            told.faces = [(1, 1, {digit: (rnd.randint(1, 6), ()) for digit in "1234" if rnd.random() < 0.5})] * 3
            told.book = Book(rnd.randint(3, 5), rnd.randint(1, 2), columns=rnd.choice((1, 1, 2)))
            tree = pages.random_tree(rnd, told, 12)
            pieces = sum(len(block[4]) for block in pages.composed(told, tree))
            targets = [number for number in page_numbers(told, tree, ()) if number] if pieces <= 12 else []
            if not 0 < len(targets) <= 2 or len(refs(told, tree)) > 3:
                continue
            found = settled(told.setting(), tree)
            allowed = [range(pieces + 2) if number else (0,) for number in page_numbers(told, tree, ())]
            wanted = [numbers for numbers in itertools.product(*allowed) if page_numbers(told, tree, numbers) == numbers]
            self.assertEqual(found, wanted)
            for numbers in found:
                self.assertEqual(true_numbers(told.setting(), tree, list(numbers)), numbers)
            many[len(found)] = many.get(len(found), 0) + 1
        self.assertIn(1, many)

    def test_late_pages(self):
        # Page 12 has two digits, and with them there is one line more.
        told = pages.usual_plan(book=Book(3, 1))
        for words in range(6, 14):
            tree = read_tree("[doc [par x [see.a] " + "xxx " * words + "][par.a y]]")
            self.assertEqual(settled(told.setting(), tree), settled_lists(told, tree, 20))

    def test_errors(self):
        setting = pages.usual_plan().setting()
        many = "[see.a]" * 3
        for text, error, told in (
                (f"[doc [par.a x{many}]]", TooLarge, 3), (f"[doc [par.a x{many}[see.b]][par [note [em [see.a]]]]]", TooLarge, 4),
                ("[doc [par.a " + "x " * 41 + many + "]]", TooLarge, 42), (f"[doc [par.a x{many}][em]]", Strange, (1,))):
            tree = read_tree(text)
            with self.assertRaises(error) as caught:
                settled(setting, tree)
            self.assertEqual(list(vars(caught.exception).values()), [told])
        self.assertEqual(len(settled(setting, read_tree("[doc [par.a x[see.a][see.a][see.b][see]]]"))[0]), 4)
        self.assertEqual(true_numbers(setting, read_tree(f"[doc [par.a x{many}]]"), ()), (1, 1, 1))

    def test_nothing_is_changed(self):
        setting = pages.usual_plan().setting()
        tree = read_tree("[doc [par.a x[see.a]]]")
        numbers = [5]
        true_numbers(setting, tree, numbers)
        settled(setting, tree).clear()
        number_places(setting.grammar, tree).clear()
        self.assertEqual((numbers, settled(setting, tree)), ([5], [(1,)]))
        self.assertEqual(number_places(setting.grammar, tree), [(0, 1)])


if __name__ == "__main__":
    unittest.main()
