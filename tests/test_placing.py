"""[75] to [77], plates, and laidforall/placing.py."""

import unittest

import pages
import samples
from laidforall.books import Book
from laidforall.composing import compose
from laidforall.errors import NoSuchNumber, TooLarge
from laidforall.marking import read_tree
from laidforall.numbering import Best
from laidforall.placing import placed_signs, plate_of


def spots(told, text, numbers=(), which=0):
    """Where the signs stand, as (sign, page, x, y), in the order of the origins."""
    signs = placed_signs(told.setting(), read_tree(text), numbers=numbers, which=which)
    return [(sign, page, x, y) for _, page, x, y, _, _, sign in signs]


def plan(*lines, joints=(), faces=None, **book):
    return pages.usual_plan(lines, joints, Book(**{"room": 6, "height": 4, **book}), faces)


class ColumnTest(unittest.TestCase):
    def test_lines_stand_below_one_another(self):
        told = plan("head: size 2", "par: indent 1", "par: before 1", "par + par: before 0")
        self.assertEqual(spots(told, "[doc [head x][par y][par u v]]"),
                         [("x", 1, 0, 0), ("y", 1, 1, 3), ("u", 2, 1, 0), ("v", 2, 3, 0)])

    def test_room_before_at_the_top_of_a_column(self):
        told = plan("par: before 2", height=3)
        self.assertEqual(spots(told, "[doc [par x][par y]]"), [("x", 1, 0, 2), ("y", 2, 0, 2)])

    def test_pages_and_left_edges(self):
        text = "[doc " + "[par x]" * 7 + "]"
        for many, gutter in ((1, 3), (2, 3), (3, 0), (4, 40)):
            told = plan(height=1, columns=many, gutter=gutter)
            wanted = [("x", at // many + 1, at % many * (6 + gutter), 0) for at in range(7)]
            self.assertEqual(spots(told, text), wanted)

    def test_figures_on_top_in_order(self):
        told = plan("fig.b: size 2", "par: size 1", height=4, wait=2000)
        text = "[doc [par x[fig f][fig.b g] xxxxx xxxxx xxxxx y]]"
        found = spots(told, text)
        self.assertEqual([spot for spot in found if spot[0] in "fgy"],
                         [("f", 2, 0, 0), ("g", 2, 0, 1), ("y", 2, 0, 3)])

    def test_further_columns(self):
        told = plan("fig: size 3", height=2, columns=2, gutter=1)
        text = "[doc [par x[fig f][fig g] y]]"
        self.assertEqual(spots(told, text), [("x", 1, 0, 0), ("f", 1, 7, 0), ("g", 2, 0, 0), ("y", 1, 2, 0)])

    def test_notes_end_at_the_foot(self):
        told = plan("note.b: size 2", height=9)
        text = "[doc [par x[note n][note.b m] xxxxx y[note k]]]"
        self.assertEqual(spots(told, text)[:3], [("x", 1, 0, 0), ("n", 1, 0, 5), ("m", 1, 0, 6)])
        self.assertEqual(spots(told, text)[-2:], [("y", 1, 0, 2), ("k", 1, 0, 8)])

    def test_notes_of_several_lines(self):
        told = plan(height=9)
        found = spots(told, "[doc [par x[note aaaa bbbb cccc]]]")
        self.assertEqual(sorted({(sign, y) for sign, _, _, y in found}), [("a", 6), ("b", 7), ("c", 8), ("x", 0)])

    def test_notes_below_the_last_line_if_there_is_too_little_room(self):
        told = plan("par: size 3", "note: size 2", height=4)
        self.assertEqual(spots(told, "[doc [par x[note n]]]"), [("x", 1, 0, 0), ("n", 1, 0, 3)])
        told = plan("par: size 2", "note: size 2", height=4)
        self.assertEqual(spots(told, "[doc [par x[note n]]]")[1], ("n", 1, 0, 2))
        told = plan("par: size 2", "note: size 2", height=5)
        self.assertEqual(spots(told, "[doc [par x[note n]]]")[1], ("n", 1, 0, 3))

    def test_no_signs(self):
        self.assertEqual(spots(plan(), "[doc]"), [])
        self.assertEqual(spots(plan(), "[doc [par  [note n]]]"), [])


class LineTest(unittest.TestCase):
    def test_own_widths(self):
        told = plan("em: size 2", "em: wide 1", "par: wide 2", room=90)
        self.assertEqual(spots(told, "[doc [par a[em b]c d]]"),
                         [("a", 1, 0, 0), ("b", 1, 3, 0), ("c", 1, 6, 0), ("d", 1, 12, 0)])

    def test_blanks_between_pieces_only(self):
        self.assertEqual(spots(plan(), "[doc [par   a   b  ]]"), [("a", 1, 0, 0), ("b", 1, 2, 0)])

    def test_hyphens(self):
        told = plan("par: wide 1", "em: size 2", joints=["a-b"], room=8)
        setting = told.setting()
        signs = placed_signs(setting, read_tree("[doc [par xx [em a]b]]"))
        self.assertEqual(signs, [
            (((0, 0), 0, 0), 1, 0, 0, 0, 1, "x"), (((0, 0), 1, 0), 1, 2, 0, 0, 1, "x"),
            (((0, 1, 0), 0, 0), 1, 0, 1, 0, 2, "a"), (((0, 2), 0, 0), 1, 3, 1, 0, 1, "b")])
        told = plan("par: wide 0", "em: size 2", joints=["a-b"], room=5)
        signs = placed_signs(told.setting(), read_tree("[doc [par x [em a]bb]]"))
        self.assertIn((((0, 1, 0), 0, 1), 1, 4, 0, 0, 1, "-"), signs)
        self.assertEqual([sign[0] for sign in signs], sorted(sign[0] for sign in signs))

    def test_filled_lines(self):
        # A gap of 3 over two blanks: the first becomes wider by 1, the second by 2.
        told = plan(full=True, room=8)
        self.assertEqual([x for _, _, x, _ in spots(told, "[doc [par a b c dddd]]")[:3]], [0, 3, 7])
        told = plan(room=8)
        self.assertEqual([x for _, _, x, _ in spots(told, "[doc [par a b c dddd]]")[:3]], [0, 2, 4])

    def test_lines_that_are_not_filled(self):
        told = plan(full=True, room=8)
        # The last line, lines without blanks, lines that are too wide, and lines of notes.
        self.assertEqual([x for _, _, x, _ in spots(told, "[doc [par a b]]")], [0, 2])
        self.assertEqual([x for _, _, x, _ in spots(told, "[doc [par aaaaa bbbbb]]")], list(range(5)) * 2)
        self.assertEqual([x for _, _, x, _ in spots(told, "[doc [par aaaaaaaaaa bb]]")], list(range(10)) + [0, 1])
        found = spots(told, "[doc [par x[note a b c dddd]]]")
        self.assertEqual([x for _, _, x, _ in found][1:4], [0, 2, 4])

    def test_filled_with_indent_and_hyphen(self):
        told = plan("par: indent 1", joints=["a-b"], full=True, room=8)
        found = spots(told, "[doc [par x y cabbb]]")
        self.assertEqual(found[:5], [("x", 1, 1, 0), ("y", 1, 3, 0), ("c", 1, 5, 0), ("a", 1, 6, 0), ("-", 1, 7, 0)])
        told = plan("par: indent 1", joints=["a-b"], full=True, room=10)
        found = spots(told, "[doc [par x y cabbbb]]")
        self.assertEqual(found[:5], [("x", 1, 1, 0), ("y", 1, 4, 0), ("c", 1, 7, 0), ("a", 1, 8, 0), ("-", 1, 9, 0)])

    def test_drops(self):
        told = plan("em: drop 1", "em em: drop 3", "note: drop 2", "fig: drop 1", "see: drop 3", "par: drop 3",
                    "head: drop 2", height=9)
        text = "[doc [head h][par p[em e[em i]][see][note n[em m]][fig f]]]"
        found = {sign: y for sign, _, _, y in spots(told, text)}
        self.assertEqual(found, {"h": 0, "p": 1, "e": 2, "i": 4, "0": 4, "n": 10, "m": 9, "f": 1})

    def test_drops_of_hyphens(self):
        told = plan("em: drop 3", "note: drop 2", "note em: drop 1", joints=["a-b"], room=4, height=9)
        signs = placed_signs(told.setting(), read_tree("[doc [par [em xxa]bbb[note [em xxa]bbb]]]"))
        self.assertEqual([(sign[0], sign[3]) for sign in signs if sign[0][2] == 1],
                         [(((0, 0, 0), 2, 1), 0), (((0, 2, 0, 0), 2, 1), 9)])
        ends = {sign[0]: sign[3] for sign in signs}
        self.assertEqual((ends[((0, 0, 0), 2, 0)], ends[((0, 2, 0, 0), 2, 0)]), (3, 8))

    def test_faces_and_sizes_are_told(self):
        told = plan("par: face 2", "em: face 1", "em: size 3", room=90)
        signs = placed_signs(told.setting(), read_tree("[doc [par a[em b]]]"))
        self.assertEqual(signs, [(((0, 0), 0, 0), 1, 0, 0, 2, 1, "a"), (((0, 1, 0), 0, 0), 1, 1, 0, 1, 3, "b")])


class NumbersTest(unittest.TestCase):
    def test_numbers_are_placed(self):
        told = plan()
        self.assertEqual(spots(told, "[doc [par [see][see]]]", [10]), [("1", 1, 0, 0), ("0", 1, 1, 0), ("0", 1, 2, 0)])
        signs = placed_signs(told.setting(), read_tree("[doc [par a[em [see]]]]"), numbers=[25])
        self.assertEqual([sign[0] for sign in signs], [((0, 0), 0, 0), ((0, 1, 0), 0, 0), ((0, 1, 0), 1, 0)])

    def test_each_best_laying(self):
        # The figure stands on top of the second column, or in a further one.
        told = plan("par: size 2", "fig: size 1", height=3)
        text = "[doc [par x[fig f]][par y]]"
        best = Best(compose(told.setting(), read_tree(text)), told.book)
        self.assertEqual(best.count, 2)
        found = [spots(told, text, which=number) for number in range(best.count)]
        for number, signs in enumerate(found):
            self.assertEqual(signs, [(sign[-1],) + sign[1:4] for sign in pages.placed(told, read_tree(text), (), number)])
            self.assertEqual(found.count(signs), 1)
        for number in (-1, best.count):
            with self.assertRaises(NoSuchNumber) as caught:
                spots(told, text, which=number)
            self.assertEqual(caught.exception.number, number)

    def test_errors_of_compose_come_first(self):
        with self.assertRaises(TooLarge):
            spots(plan(), "[doc [par " + "x " * 41 + "]]", which=-1)

    def test_against_sums_of_their_own(self):
        seen = {"hyphen": 0, "note": 0, "figure": 0, "full": 0, "further": 0}
        for seed in range(500):
            rnd = samples.chance(1000 + seed)
            told = pages.random_plan(rnd)
            tree = pages.random_tree(rnd, told, rnd.randint(3, 14))
            blocks = pages.composed(told, tree)
            calls = [piece for block in blocks for piece in block[4]]
            if len(calls) > 40 or sum(len(piece[3]) for piece in calls) > 4:
                continue
            setting = told.setting()
            best = Best(compose(setting, tree), told.book)
            for which in {0, best.count - 1, rnd.randrange(best.count)}:
                found = placed_signs(setting, tree, which=which)
                self.assertEqual(found, pages.placed(told, tree, (), which))
                seen["hyphen"] += any(sign[0][2] for sign in found)
            seen["note"] += any(piece[2] for piece in calls)
            seen["figure"] += any(piece[3] for piece in calls)
            seen["full"] += told.book.full and len(best.nth()) > len(blocks)
            seen["further"] += any(not lines for _, lines in pages.columns(blocks, best.nth()))
        self.assertGreater(min(seen.values()), 15, seen)


class PlateTest(unittest.TestCase):
    def test_plates(self):
        signs = [(((0, 1), 0, 0), 2, 5, 3, 1, 2, "a"), (((0, 0), 0, 0), 2, 7, 1, 0, 1, "b"),
                 (((0, 0), 0, 1), 1, 9, 9, 2, 3, "-"), (((0, 2), 0, 0), 2, 5, 3, 1, 2, "a")]
        given = list(signs)
        self.assertEqual(plate_of(signs), [(1, 9, 9, 2, 3, "-"), (2, 1, 7, 0, 1, "b"), (2, 3, 5, 1, 2, "a"),
                                           (2, 3, 5, 1, 2, "a")])
        self.assertEqual(signs, given)
        self.assertEqual(plate_of([]), [])

    def test_returned_lists_are_new(self):
        setting = plan().setting()
        tree = read_tree("[doc [par x]]")
        placed_signs(setting, tree).clear()
        self.assertEqual(len(placed_signs(setting, tree)), 1)


if __name__ == "__main__":
    unittest.main()
