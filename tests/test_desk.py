"""[100], [101] and laidforall/desk.py."""

import unittest

import oracles
import pages
import samples
from laidforall import errors
from laidforall.blame import least_supports
from laidforall.books import Book
from laidforall.commands import write_laying, write_place
from laidforall.composing import compose
from laidforall.describing import describe
from laidforall.desk import Desk, Trial
from laidforall.errors import BadCommand
from laidforall.marking import read_tree, write_tree
from laidforall.numbering import Best
from laidforall.placing import placed_signs, plate_of
from laidforall.promises import first_breaking
from laidforall.sheets import Sheet
from laidforall.styles import style_of

LINES = ["par: indent 1", "em.x: size 2"]

TEXT = "[doc [head.y Ti tle][par xa xa[em.x b] x][par x xa]]"

PROMISES = ("promise loose 0", "promise loose 1", "promise loose 3", "promise keep", "promise orphan", "promise widow",
            "promise empty 0", "promise empty 2", "promise fits")


def plan():
    return pages.usual_plan(LINES, ["a-b", "x-"], Book(6, 3, columns=2))


def state(desk):
    """All that the answers of a desk tell of it."""
    told = [desk.tree, desk("cost"), desk("lay 0"), desk("page 1")]
    return told + [desk(f"why {word} {name}") for word in ("root", "0") for name in oracles.PROPERTY_NAMES]


class CommandTest(unittest.TestCase):
    def setUp(self):
        self.told = plan()
        self.setting = self.told.setting()
        self.desk = Desk(self.setting)

    def put(self):
        self.assertEqual(self.desk(f"tree {TEXT}"), ["ok"])

    def test_at_first(self):
        self.assertEqual(self.desk.tree, ("doc", "", ()))
        self.assertEqual(self.desk("cost"), ["cost 0 count 1"])
        self.assertEqual(self.desk("lay 0"), [])
        self.assertEqual(self.desk("page 1"), [])
        self.assertEqual(self.desk("undo"), ["nothing"])
        self.assertEqual(self.desk("promise fits"), ["kept"])
        self.assertEqual(self.desk("style root"), ["0 1 0 0 0 0"])
        other = Desk(pages.Plan(pages.OTHER_ROWS, "k", [], self.told.faces, [], self.told.book).setting())
        self.assertEqual(other.tree, ("k", "", ()))

    def test_the_setting_is_copied(self):
        self.put()
        before = state(self.desk)
        self.setting.sheet = Sheet([])
        self.setting.book = Book(1, 1)
        self.assertEqual(state(self.desk), before)
        self.desk("row par: size 2")
        self.desk("book room 9")
        self.assertEqual((list(self.setting.sheet), self.setting.book), ([], Book(1, 1)))

    def test_tree(self):
        self.put()
        self.assertEqual(self.desk.tree, read_tree(TEXT))
        self.assertEqual(self.desk("tree [doc.x]"), ["ok"])
        self.assertEqual(self.desk.tree, ("doc", "x", ()))

    def test_rows(self):
        self.put()
        self.assertEqual(self.desk("row head: size 3 firm"), ["ok"])
        self.assertEqual(self.desk("why 0 size"), ["row head: size 3 firm"])
        self.assertEqual(self.desk("style 0"), ["0 3 0 0 0 0"])
        self.assertEqual(self.desk("strike 0"), ["ok"])
        self.assertEqual(self.desk("why 1 indent"), ["default"])
        self.assertEqual(self.desk("why 1.1 size"), ["row em.x: size 2"])
        self.assertEqual(self.desk("strike 0"), ["ok"])
        self.assertEqual(self.desk("why 1.1 size"), ["parent"])
        self.assertEqual(self.desk("why 0 size"), ["row head: size 3 firm"])

    def test_books(self):
        self.put()
        for field, value in (("room", 9), ("height", 4), ("joint", 2000), ("over", 0), ("keep", 7), ("orphan", 6), ("widow", 5),
                             ("wait", 4), ("columns", 3), ("gutter", 0)):
            self.assertEqual(self.desk(f"book {field} {value}"), ["ok"])
            self.told.book = self.told.book.changed(**{field: value})
            self.check_answers(read_tree(TEXT))
        for word, value in (("1", True), ("0", False)):
            self.assertEqual(self.desk(f"book full {word}"), ["ok"])
            self.told.book = self.told.book.changed(full=value)
            self.check_answers(read_tree(TEXT))

    def check_answers(self, tree):
        """All answers are as the calls answer."""
        desk, setting = self.desk, self.told.setting()
        galley = compose(setting, tree)
        best = Best(galley, setting.book)
        self.assertEqual(desk("cost"), [f"cost {best.cost} count {best.count}"])
        for number in range(min(best.count, 3)):
            self.assertEqual(desk(f"lay {number}"), write_laying(best.nth(number)))
        plate = plate_of(placed_signs(setting, tree))
        last = max([sign[0] for sign in plate], default=0)
        for page in range(last + 3):
            told = describe([sign for sign in plate if sign[0] == page], setting.faces)
            self.assertEqual(desk(f"page {page}"), told)
            self.assertEqual(told == [], page in (0, last + 1, last + 2))
        table = oracles.reasons(self.told.lines, tree)
        for place in table:
            word = write_place(place)
            self.assertEqual(desk(f"style {word}"), [" ".join(map(str, style_of(setting.sheet, tree, place)))])
            for name in oracles.PROPERTY_NAMES:
                reason = table[place][name][1]
                told = f"row {self.told.lines[reason[1]]}" if reason[0] == "row" else reason[0]
                self.assertEqual(desk(f"why {word} {name}"), [told])
        for line in PROMISES:
            name, *rest = line.split(" ")[1:]
            laying = first_breaking(galley, setting.book, (name,) + tuple(map(int, rest)))
            self.assertEqual(desk(line), ["kept"] if laying is None else ["broken"] + write_laying(laying))

    def test_random_desks(self):
        broken = kept = 0
        for seed in range(40):
            rnd = samples.chance(seed)
            self.told = pages.random_plan(rnd)
            tree = pages.random_tree(rnd, self.told, 8)
            self.desk = Desk(self.told.setting())
            self.desk(f"tree {write_tree(tree)}")
            self.check_answers(tree)
            answers = [self.desk(line)[0] for line in PROMISES]
            broken += "broken" in answers
            kept += "kept" in answers
        self.assertGreater(min(broken, kept), 10)

    def test_blame(self):
        self.put()
        tree = read_tree(TEXT)
        names = {"row": str, "mark": write_place}
        for place, index in (((0, 0), 0), ((1, 0), 0), ((1, 0), 4), ((1, 1, 0), 0), ((1, 2), 1), ((2, 0), 0)):
            told = least_supports(self.setting, tree, (place, index, 0))
            wanted = [", ".join(f"{name} {names[name](what)}" for name, what in facts) or "nothing" for facts in told]
            self.assertEqual(self.desk(f"blame {write_place(place)} {index}"), wanted)
        self.assertEqual(self.desk("blame 0.0 0"), ["nothing"])
        self.assertEqual(self.desk("blame 1.0 0"), ["row 0"])
        self.assertEqual(self.desk("blame 1.1.0 0"), ["row 0, row 1, mark 1.1"])
        self.desk("row par: indent 1")
        self.assertEqual(self.desk("blame 1.0 0"), ["row 0", "row 2"])

    def test_no_numbers_are_given(self):
        self.desk("tree [doc [par.a x[see.a]]]")
        self.assertEqual(self.desk("page 1"), ["page 1", "face 0 size 1", "at 1 0 x0"])

    def test_undo(self):
        states = [state_of_empty(self.desk)]
        lines = [f"tree {TEXT}", "row par: size 2", "book room 9", "strike 0", "tree [doc [par x]]", "row par: size 2"]
        for line in lines:
            self.assertEqual(self.desk(line), ["ok"])
            states.append(state_of_empty(self.desk))
        for before in states[-2::-1]:
            self.assertEqual(self.desk("undo"), ["ok"])
            self.assertEqual(state_of_empty(self.desk), before)
        self.assertEqual(self.desk("undo"), ["nothing"])
        self.assertEqual(state_of_empty(self.desk), states[0])
        self.desk(lines[0])
        self.desk("undo")
        self.desk(lines[1])
        self.assertEqual(self.desk("undo"), ["ok"])
        self.assertEqual(self.desk("undo"), ["nothing"])

    def test_answers_are_new(self):
        self.put()
        for line in ("cost", "lay 0", "page 1", "style 1", "promise fits", "blame 0.0 0", "why 1 indent"):
            before = list(self.desk(line))
            self.desk(line).clear()
            self.assertEqual(self.desk(line), before)

    def test_run(self):
        lines = ["cost", f"tree {TEXT}", "style 1.1", "undo", "undo"]
        self.assertEqual(self.desk.run(lines), [["cost 0 count 1"], ["ok"], ["0 2 0 0 0 0"], ["ok"], ["nothing"]])
        self.assertEqual(self.desk.run([]), [])
        with self.assertRaises(BadCommand) as caught:
            self.desk.run([f"tree {TEXT}", "row em: drop 1", "row em", "strike 0", "x"])
        self.assertEqual(caught.exception.line, "row em")
        self.assertEqual(self.desk.run(["style 1.1", "why 1 indent", "undo", "undo", "undo"]),
                         [["0 2 0 1 0 0"], ["row par: indent 1"], ["ok"], ["ok"], ["nothing"]])


def state_of_empty(desk):
    """All that the answers of a desk tell of it, whatever its tree is."""
    told = [desk.tree, desk("cost"), desk("lay 0"), desk("page 1")]
    for place in oracles.places_of(desk.tree):
        told.extend(desk(f"why {write_place(place)} {name}") for name in oracles.PROPERTY_NAMES)
        told.append(desk(f"style {write_place(place)}"))
    return told


class BadTest(unittest.TestCase):
    def setUp(self):
        self.desk = Desk(plan().setting())
        self.desk("row head: size 2")
        self.desk(f"tree {TEXT}")

    def assert_bad(self, line, cause=None):
        before = state(self.desk)
        with self.assertRaises(BadCommand) as caught:
            self.desk(line)
        self.assertEqual(caught.exception.line, line)
        if cause is None:
            self.assertIsNone(caught.exception.__cause__, line)
        else:
            self.assertIs(caught.exception.__cause__.__class__, cause, line)
        self.assertEqual(state(self.desk), before)

    def tearDown(self):
        # Nothing but the two commands of setUp is there to be taken back.
        self.assertEqual([self.desk("undo"), self.desk("undo"), self.desk("undo")], [["ok"], ["ok"], ["nothing"]])

    def test_lines_that_are_no_commands(self):
        for line in (
                "", " ", "x", "COST", "cost ", " cost", "cost 1", "undo ", "undo 1", " undo", "undo\n", "tree", "row", "strike",
                "book", "lay", "page", "style", "why", "promise", "blame", "costs", "trees [doc]", "Tree [doc]", "tree\t[doc]",
                "strike x", "strike 01", "strike -1", "strike  0", "strike 0 ", "strike 1000000000000", "strike ",
                "lay x", "lay 00", "lay  0", "lay 0 ", "lay 0000000000000", "lay ", "lay 1.0",
                "page x", "page 01", "page  1", "page 1 ", "page 1000000000000", "page ", "page -1",
                "book room", "book room x", "book room 05", "book room  5", "book  room 5", "book room 5 ", "book room 5 6",
                "book room -5", "book room 1000000000000", "book full 2", "book full True", "book full 01", "book ", "book 5",
                "promise ", "promise x", "promise loose", "promise empty", "promise loose x", "promise loose 01",
                "promise loose  1", "promise loose 1 ", "promise loose 1 2", "promise keep 1", "promise keep ", "promise Keep",
                "promise fits 0", "promise loose 1000000000000", "promise loose -1", " promise keep", "promise  keep",
                "why 0", "why root ", "why 0 color", "why 0 Size", "why 0 size ", "why 0  size", "why root indent 1",
                "blame 0.0", "blame 0.0 x", "blame 0.0 00", "blame 0.0  0", "blame 0.0 0 ", "blame 0.0 0 0",
                "blame 0.0 1000000000000"):
            self.assert_bad(line)

    def test_bad_trees(self):
        for text, cause in (("", errors.BadMarks), (" [doc]", errors.BadMarks), ("[doc] ", errors.BadMarks),
                            ("[doc [par]", errors.BadMarks), ("[par]", errors.Strange), ("[doc x]", errors.Strange),
                            ("[doc [em x]]", errors.Strange), ("[doc " + "[par]" * 60 + "]", errors.TooLarge)):
            self.assert_bad(f"tree {text}", cause)

    def test_bad_rows(self):
        for line in ("", " em: size 2", "em size 2", "em: size 4", "em: size 2 ", "em: size 02", "em: color 2", "em:  size 2"):
            self.assert_bad(f"row {line}", errors.BadLine)
        for _ in range(9):
            self.desk("row em: size 2")
        self.assert_bad("row em: size 2", errors.TooLarge)
        for _ in range(9):
            self.desk("undo")
        for index in (3, 4, 12, 999999999999):
            self.assert_bad(f"strike {index}", errors.NoSuchNumber)

    def test_bad_books(self):
        for text in ("room 0", "room 2001", "height 0", "joint 2001", "columns 0", "columns 5", "gutter 41", "color 1", "self 1",
                     "fields 1", "over 999999999999"):
            self.assert_bad(f"book {text}", errors.BadBook)

    def test_what_is_not_there(self):
        self.assert_bad("lay 1", errors.NoSuchNumber)
        self.assert_bad("lay 999999999999", errors.NoSuchNumber)
        for word in ("9", "0.0", "1.1.0", "1.1.1", "0.0.0.0"):
            self.assert_bad(f"style {word}", errors.NoPlace)
            self.assert_bad(f"why {word} size", errors.NoPlace)
        for word in ("x", "00", "0.", "1..1", ".".join("0" * 13), "Root"):
            self.assert_bad(f"style {word}", errors.BadValue)
            self.assert_bad(f"why {word} size", errors.BadValue)
            self.assert_bad(f"blame {word} 0", errors.BadValue)
        for text in ("root 0", "0 0", "0.0 2", "0.0 99", "1.1 0", "9.9 0"):
            self.assert_bad(f"blame {text}", errors.NoSign)

    def test_trees_that_are_too_large_to_be_composed(self):
        desk = Desk(plan().setting())
        desk("tree [doc [par " + "x " * 41 + "]]")
        tree = desk.tree
        for line in ("cost", "lay 0", "page 1", "page 0", "promise keep", "blame 0.0 0"):
            with self.assertRaises(BadCommand) as caught:
                desk(line)
            self.assertIsInstance(caught.exception.__cause__, errors.TooLarge)
        self.assertEqual(desk.tree, tree)
        self.assertEqual(desk("style 0"), ["0 1 0 0 1 0"])
        self.assertEqual(desk.run(["undo", "undo"]), [["ok"], ["nothing"]])

    def test_too_many_facts(self):
        for _ in range(4):
            self.desk("row fig: size 2")
        self.assert_bad("blame 0.0 0", errors.TooLarge)
        self.assert_bad("blame 0.0 2", errors.NoSign)
        for _ in range(4):
            self.desk("undo")

    def test_undo_of_what_was_before_a_bad_command(self):
        self.desk("row par: size 2")
        self.assert_bad("row x", errors.BadLine)
        self.assert_bad("strike 9", errors.NoSuchNumber)
        self.assertEqual(self.desk("why 1 size"), ["row par: size 2"])
        self.assertEqual(self.desk("undo"), ["ok"])
        self.assertEqual(self.desk("why 1 size"), ["parent"])


class TrialTest(unittest.TestCase):
    def setUp(self):
        self.desk = Desk(plan().setting())
        self.desk("row head: size 2")
        self.desk(f"tree {TEXT}")
        self.before = state(self.desk)

    def assert_before(self):
        self.assertEqual(state(self.desk), self.before)
        self.assertEqual(self.desk("undo"), ["ok"])
        self.assertEqual(self.desk.tree, ("doc", "", ()))
        self.assertEqual(self.desk.run(["undo", "undo"]), [["ok"], ["nothing"]])

    def change(self, desk):
        for line in ("tree [doc [head y]]", "strike 0", "row head: size 3", "book room 1"):
            desk(line)
        self.assertNotEqual(state(desk), self.before)

    def test_a_trial(self):
        with Trial(self.desk) as held:
            self.assertIs(held, self.desk)
            self.assertEqual(state(self.desk), self.before)
            self.change(held)
        self.assert_before()

    def test_undo_in_a_trial(self):
        with Trial(self.desk):
            self.assertEqual(self.desk.run(["undo", "undo", "undo"]), [["ok"], ["ok"], ["nothing"]])
            self.desk("tree [doc [par x]]")
        self.assert_before()

    def test_nested(self):
        with Trial(self.desk):
            self.desk("tree [doc [head y]]")
            inner = state(self.desk)
            with Trial(self.desk) as held:
                self.change(held)
                held("undo")
            self.assertEqual(state(self.desk), inner)
            self.desk("undo")
            self.assertEqual(state(self.desk), self.before)
        self.assert_before()

    def test_one_object_twice(self):
        trial = Trial(self.desk)
        with trial:
            self.desk("tree [doc [head y]]")
            inner = state(self.desk)
            with trial:
                self.change(self.desk)
            self.assertEqual(state(self.desk), inner)
        with trial:
            self.change(self.desk)
        self.assert_before()

    def test_behind_an_error(self):
        with self.assertRaises(BadCommand) as caught:
            with Trial(self.desk) as held:
                held("book room 1")
                held("nothing")
        self.assertEqual(caught.exception.line, "nothing")
        with self.assertRaises(KeyError):
            with Trial(self.desk):
                with Trial(self.desk) as held:
                    self.change(held)
                    raise KeyError("x")
        self.assert_before()

    def test_nothing_happens_before_the_block(self):
        trial = Trial(self.desk)
        self.desk("tree [doc [head y]]")
        with trial:
            self.desk("undo")
        self.assertEqual(self.desk.tree, read_tree("[doc [head y]]"))
        self.desk("undo")
        self.assert_before()


if __name__ == "__main__":
    unittest.main()
