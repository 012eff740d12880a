"""[70] to [74] and laidforall/composing.py."""

import unittest

import oracles
import pages
import samples
from laidforall.books import Book
from laidforall.composing import compose, tokens_of
from laidforall.errors import Strange, TooLarge
from laidforall.galleys import Galley
from laidforall.marking import read_tree
from laidforall.numbering import Best
from laidforall.placing import placed_signs

END = ("end",)

# Heights 1, 2 and 3; blanks of 1, 2 and 5.
FACES = [
    (1, 1, {"a": (2, ()), "-": (3, ()), "0": (4, ()), "7": (6, ())}),
    (2, 2, {"a": (5, ()), "b": (4, ())}),
    (3, 5, {"-": (9, ())}),
]


def plan(*lines, joints=("a-b",), book=None):
    return pages.usual_plan(lines, joints, book or Book(30, 20), FACES)


def galley(told, text, numbers=()):
    return list(compose(told.setting(), read_tree(text), numbers))


def pieces(told, text, numbers=()):
    return galley(told, text, numbers)[0][4]


class TokensTest(unittest.TestCase):
    def tokens(self, text, place, numbers=(), joints=("a-b",)):
        return tokens_of(plan(joints=joints).setting(), read_tree(text), place, numbers)

    def test_blanks(self):
        self.assertEqual(self.tokens("[doc [par   a  b ]]", (0,)), ["a", "b"])
        self.assertEqual(self.tokens("[doc [par a]]", (0,)), ["a"])
        self.assertEqual(self.tokens("[doc [par   ]]", (0,)), [])
        self.assertEqual(self.tokens("[doc [par]]", (0,)), [])

    def test_tokens_go_on_across_spans_at_any_depth(self):
        text = "[doc [par x[em y[em z[em  u]v]]w q[em][em r]]]"
        self.assertEqual(self.tokens(text, (0,)), ["xyz", "uvw", "qr"])
        self.assertEqual(self.tokens("[doc [head x[em [em [em y]]]z]]", (0,)), ["xyz"])

    def test_notes_and_figures_do_not_divide_and_are_left_out(self):
        text = "[doc [par x[note n m[em o p]]y [fig f]z[em w]]]"
        self.assertEqual(self.tokens(text, (0,)), ["xy", "zw"])
        self.assertEqual(self.tokens(text, (0, 1)), ["n", "mo", "p"])
        self.assertEqual(self.tokens(text, (0, 3)), ["f"])

    def test_numbers(self):
        text = "[doc [par [see]a[see][em [see.x]b [see]]][par [note [em [see]]]c]]"
        self.assertEqual(self.tokens(text, (0,)), ["0a00b", "0"])
        self.assertEqual(self.tokens(text, (0,), [12]), ["12a00b", "0"])
        self.assertEqual(self.tokens(text, (0,), (1, 20, 300, 4, 5)), ["1a20300b", "4"])
        self.assertEqual(self.tokens(text, (1, 0), (1, 20, 300, 4, 5)), ["5"])
        self.assertEqual(self.tokens(text, (1, 0), (1, 20, 300, 4)), ["0"])
        self.assertEqual(self.tokens(text, (0,), ()), ["0a00b", "0"])

    def test_tokens_are_not_divided(self):
        self.assertEqual(self.tokens("[doc [par abab]]", (0,)), ["abab"])


class PiecesTest(unittest.TestCase):
    def test_syllables_and_ties(self):
        told = plan()
        self.assertEqual(pieces(told, "[doc [par ab  x]]"),
                         ((2, ("joint", 3), (), ()), (1, ("blank", 1), (), ()), (1, END, (), ())))
        self.assertEqual(pieces(told, "[doc [par a[em b]]]"), ((2, ("joint", 3), (), ()), (1, END, (), ())))

    def test_only_words_have_joints(self):
        for text, many in (("ab", 2), ("Ab", 1), ("ab.", 1), ("ab[see]", 1), ("[see]ab", 1), ("a b", 2)):
            self.assertEqual(len(pieces(plan(), f"[doc [par {text}]]")), many, text)

    def test_widths_of_unlike_signs(self):
        told = plan("em: face 1", "em: size 2", "em em: wide 3", "see: face 0", "see: size 3")
        # a in the block, a and b in the span, a in the inner one, 7 and 0 as a number.
        self.assertEqual([piece[0] for piece in pieces(told, "[doc [par a[em ab[em a]]]]")], [2 + 10, 8 + 13])
        self.assertEqual([piece[0] for piece in pieces(told, "[doc [par x[em aB[em a]]]]")], [1 + 10 + 2 + 13])
        self.assertEqual([piece[0] for piece in pieces(told, "[doc [par [see]]]", [70])], [18 + 12])
        self.assertEqual([piece[0] for piece in pieces(told, "[doc [par [em [em [see]]]]]", [7])], [18 + 3])

    def test_blank_and_hyphen_have_the_style_of_the_block_element(self):
        told = plan("par: face 2", "par: size 2", "par: wide 1", "em: face 0", "em: size 1", "em: wide 0")
        self.assertEqual(pieces(told, "[doc [par [em ab b]]]"),
                         ((2, ("joint", 19), (), ()), (1, ("blank", 11), (), ()), (1, END, (), ())))

    def test_the_block(self):
        told = plan("par: face 1", "par: size 3", "par: indent 4", "head: before 7", "par: drop 3", "head: face 2")
        first, second = galley(told, "[doc [head x][par x]]")
        self.assertEqual(first[:4], (3, 0, 7, True))
        self.assertEqual(second[:4], (6, 4, 0, False))

    def test_no_blocks(self):
        self.assertEqual(galley(plan(), "[doc]"), [])
        self.assertEqual(galley(plan(), "[doc [par][head  ][par [em  [em]]]]"), [])
        self.assertEqual(compose(plan().setting(), read_tree("[doc]")), Galley())

    def test_block_elements_without_pieces_are_left_out(self):
        text = "[doc [par  [note n][fig f]][par x][head][par [note n]][head y]]"
        told = galley(plan(), text)
        self.assertEqual([(block[3], block[4]) for block in told],
                         [(False, ((1, END, (), ()),)), (True, ((1, END, (), ()),))])


class CallsTest(unittest.TestCase):
    def heights(self, told, text, numbers=()):
        return [(piece[2], piece[3]) for piece in pieces(told, text, numbers)]

    def test_who_calls(self):
        told = plan()
        for text, caller in (
                ("[note n]x y z", 0), ("  [note n]x y z", 0), ("x[note n]y z u", 0), ("x [note n]y z", 0),
                ("x y[note n] z", 1), ("x y  [note n] z", 1), ("x y z[note n]", 2), ("x y z  [note n]", 2),
                ("a[note n]b x", 0), ("ab[note n] x", 1), ("x [em y][note n]z u", 1), ("[em x ][note n]y z", 0),
                ("x y[see][note n] z", 1), ("x [see] [note n]z", 1)):
            found = self.heights(told, f"[doc [par {text}]]")
            self.assertEqual([at for at, calls in enumerate(found) if calls == ((1,), ())], [caller], text)

    def test_other_notes_are_not_ahead(self):
        self.assertEqual(self.heights(plan(), "[doc [par [note long note][fig f]x y]]"), [((1,), (1,)), ((), ())])

    def test_order_of_several(self):
        told = plan("note.b: face 1", "fig.b: face 1", "fig.c: face 2")
        text = "[doc [par x[note n][fig.c f][note.b n][fig.b f] y[fig f]]]"
        self.assertEqual(self.heights(told, text), [((1, 2), (3, 2)), ((), (1,))])

    def test_those_without_pieces_are_left_out(self):
        text = "[doc [par x[note][fig  ][note [em]][note [em  [em]]][note [em [see]]]]]"
        self.assertEqual(self.heights(plan(), text), [((1,), ())])

    def test_heights_are_those_of_the_lines(self):
        told = plan("note: face 1", "note: size 2", book=Book(10, 20))
        # Each x is 2 wide and each blank 4, so two stand in a line of 10.
        for many, lines in ((1, 1), (2, 1), (3, 2), (4, 2), (5, 3)):
            words = " ".join("x" * many)
            self.assertEqual(self.heights(told, f"[doc [par x[note {words}]]]"), [((4 * lines,), ())])

    def test_no_indent_and_no_room_before(self):
        text = "[doc [par x[note x x x]]]"
        for lines in ((), ("note: indent 9",), ("note: before 9",)):
            self.assertEqual(self.heights(plan(*lines, book=Book(5, 9)), text), [((1,), ())])

    def test_lines_of_the_first_best_laying(self):
        told = plan(joints=["b-c"], book=Book(6, 9))
        setting = told.setting()
        block = (1, 0, 0, False, ((1, ("blank", 1), (), ()), (1, ("joint", 3), (), ()), (1, ("blank", 1), (), ()),
                                  (1, END, (), ())))
        for joint in (0, 1, 50):
            setting.book = Book(6, 9, joint=joint, keep=3, orphan=9, widow=9, wait=9)
            laying = Best(Galley([block]), Book(6, 2000, joint=joint)).nth()
            told = compose(setting, read_tree("[doc [par x[note x bc y]]]"))
            self.assertEqual(told.pieces[0][2], (len(laying),))

    def test_joint_and_over_of_the_book_count(self):
        # With a cost for joints the word is not divided, and a further line is begun.
        text = "[doc [par x[note xx ab]]]"
        for joint, over, lines in ((0, 100, 2), (40, 100, 2), (0, 0, 2)):
            told = plan(book=Book(8, 9, joint=joint, over=over))
            one = pages.sets(told, read_tree(text))[0].inner[(0, 1)]
            self.assertEqual(self.heights(told, text), [((one.height(),), ())])
            self.assertLessEqual(one.height(), lines)

    def test_numbers_in_notes(self):
        told = plan(book=Book(6, 9))
        text = "[doc [par [note x [em [see]]]x[see]]]"
        self.assertEqual(self.heights(told, text, [7]), [((2,), ())])
        self.assertEqual(self.heights(told, text, [0, 777]), [((1,), ())])


class ErrorsTest(unittest.TestCase):
    def setUp(self):
        self.setting = plan().setting()

    def assert_raises(self, error, told, text):
        tree = read_tree(text)
        for call in (lambda: compose(self.setting, tree), lambda: placed_signs(self.setting, tree),
                     lambda: placed_signs(self.setting, tree, which=5)):
            with self.assertRaises(error) as caught:
                call()
            self.assertEqual(list(vars(caught.exception).values()), [told])

    def words(self, many):
        return " ".join("x" * many)

    def test_strange_trees(self):
        for text, place in (("[par]", ()), ("[doc x]", (0,)), ("[doc [par][em]]", (1,)), ("[doc [par [see x]]]", (0, 0, 0)),
                            ("[doc [par [note [note]]][x]]", (0, 0, 0)), ("[doc [head [note]]]", (0, 0))):
            self.assert_raises(Strange, place, text)
        self.assert_raises(Strange, (1,), f"[doc [par {self.words(50)}][em]]")

    def test_pieces(self):
        self.assertEqual(len(compose(self.setting, read_tree(f"[doc [par {self.words(40)}]]"))), 40)
        self.assert_raises(TooLarge, 41, f"[doc [par {self.words(41)}]]")
        self.assert_raises(TooLarge, 42, f"[doc [par {self.words(20)}][head {self.words(20)}][par x x]]")

    def test_figures(self):
        self.assertEqual(len(compose(self.setting, read_tree("[doc [par x" + "[fig f]" * 4 + "]]")).figures), 4)
        self.assert_raises(TooLarge, 5, "[doc [par x" + "[fig f]" * 5 + "]]")
        self.assert_raises(TooLarge, 6, "[doc [par x" + "[fig f]" * 3 + "][par x" + "[fig f]" * 3 + "]]")
        self.assert_raises(TooLarge, 41, f"[doc [par {self.words(41)}" + "[fig f]" * 5 + "]]")
        # Figures without pieces, and those of block elements that are left out, do not count.
        text = "[doc [par x" + "[fig f]" * 4 + "[fig]" * 5 + "][par" + " [fig f]" * 5 + "]]"
        self.assertEqual(compose(self.setting, read_tree(text)).figures, [1] * 4)

    def test_notes_and_figures_with_many_pieces(self):
        for kind in ("note", "fig"):
            self.assertEqual(len(compose(self.setting, read_tree(f"[doc [par x[{kind} {self.words(40)}]]]"))), 1)
            self.assert_raises(TooLarge, 41, f"[doc [par x[{kind} {self.words(41)}]]]")
        # The first one in reading order is told, ahead of the galley itself.
        self.assert_raises(TooLarge, 43, f"[doc [par {self.words(45)}][par x[fig {self.words(43)}][note {self.words(44)}]]]")

    def test_those_that_are_left_out_raise_nothing(self):
        text = f"[doc [par  [note {self.words(41)}][fig {self.words(50)}]][par x]]"
        self.assertEqual(len(compose(self.setting, read_tree(text))), 1)


class SearchTest(unittest.TestCase):
    def test_against_the_plain_words(self):
        called = 0
        for seed in range(400):
            rnd = samples.chance(seed)
            told = pages.random_plan(rnd)
            tree = pages.random_tree(rnd, told, rnd.randint(2, 14))
            numbers = [rnd.choice((0, 7, 10, 70)) for _ in range(rnd.randint(0, 3))]
            wanted = pages.composed(told, tree, numbers)
            called += any(piece[2] + piece[3] for block in wanted for piece in block[4])
            setting = told.setting()
            try:
                found = compose(setting, tree, numbers)
            except TooLarge as wrong:
                self.assertGreater(max(sum(len(block[4]) for block in wanted), wrong.many), 4)
                continue
            self.assertEqual(list(found), wanted)
            texts = pages.numbers_told(told, tree, numbers)
            for place, node in oracles.nodes_of(tree):
                if not isinstance(node, str) and told.roles[node[0]] in ("block", "head", "note", "figure"):
                    one = pages.Set(told, tree, place, texts, pages.styles(told, tree))
                    self.assertEqual(tokens_of(setting, tree, place, numbers), one.tokens)
        self.assertGreater(called, 40)

    def test_nothing_is_changed(self):
        told = plan("par: indent 2")
        setting = told.setting()
        tree = read_tree("[doc [par ab[see] x[note n]]]")
        numbers = [12]
        first = compose(setting, tree, numbers)
        first += first
        tokens_of(setting, tree, (0,), numbers).clear()
        self.assertEqual(numbers, [12])
        self.assertEqual(tokens_of(setting, tree, (0,), numbers), ["ab12", "x"])
        self.assertEqual(list(compose(setting, tree, numbers)), pages.composed(told, tree, numbers))
        numbers.append(5)
        self.assertEqual(list(compose(setting, tree, numbers)), pages.composed(told, tree, [12]))


if __name__ == "__main__":
    unittest.main()
