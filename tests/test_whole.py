"""[1] to [4]: what holds over the whole program."""

import unittest

import pages
import samples
from test_ranges import plain_range
from laidforall import (
    blame, books, commands, composing, describing, desk, errors, facts, families, faces, fronts, galleys, grammars, inks,
    joints, judging, layings, marking, mending, numbering, outlines, pagenumbers, patterns, pictures, placing, prices, promises,
    ranges, sheets, situations, styles, syllables, trees, verdicts,
)

LINES = ["par: indent 1", "em.x: size 2", "head + par: before 1"]

TREE = marking.read_tree("[doc [head Ti tle][par.q xa xa[em.x b[see.q]][note n m] x][par x xa[fig f]]]")


def snapshot(value):
    """All that an argument holds, at any depth."""
    if isinstance(value, (list, tuple)):
        return [value.__class__] + [snapshot(part) for part in value]
    if isinstance(value, dict):
        return [dict] + [(snapshot(key), snapshot(part)) for key, part in value.items()]
    if hasattr(value, "__dict__"):
        return [value.__class__, snapshot(vars(value))]
    return value


def emptied(value):
    """Change what was returned, as far as lists and dicts can be changed."""
    if isinstance(value, (list, dict)):
        value.clear()
    if isinstance(value, dict):
        value["x"] = 1


class Calls:
    """Calls of all functions and methods that take or return what can be changed."""

    def __init__(self):
        self.told = pages.usual_plan(LINES, ["x-"], books.Book(9, 4, columns=2))
        self.setting = self.told.setting()
        self.grammar = grammars.Grammar.usual()
        self.sheet = sheets.Sheet(LINES)
        self.other = sheets.Sheet(LINES[:2])
        self.galley = composing.compose(self.setting, TREE)
        self.book = self.setting.book
        self.best = numbering.Best(self.galley, self.book)
        self.family = families.Family([(1, 0, 0, True, 1, 1, ((1, 2), (2,)))], [0], [[0]])
        self.fits = ("fits",)
        self.ink = inks.Ink([(0, 0), (2, 1)])
        self.trees = plain_range(*LINES)
        self.plate = placing.plate_of(placing.placed_signs(self.setting, TREE))
        self.origin = ((1, 0), 0, 0)
        self.rows = ["a-b", "-"]
        self.told_joints = joints.Joints(self.rows)
        self.face = faces.Face("x", 1, 1, [("a", 1, pages.SQUARE)])

    def all(self):
        return self.of_sheets() + self.of_galleys() + self.of_families() + self.of_trees() + self.of_objects()

    def of_sheets(self):
        sheet, other, grammar = self.sheet, self.other, self.grammar
        table = styles.reason_table(sheet, TREE)
        return [
            (styles.reason_table, sheet, TREE), (styles.accepts_reasons, sheet, TREE, table), (styles.style_of, sheet, TREE, (1,)),
            (sheet.only, [0, 2]), (sheet.without, [1]), (sheet.bids, TREE, (1,), "indent"), (sheet.row, 1), (sheet.rank, 1),
            (situations.possible_styles, sheet, grammar, "em"), (situations.idle_rows, sheet, grammar),
            (situations.needless_rows, sheet, grammar), (situations.least_rows, sheet, grammar),
            (situations.first_parting, sheet, other, grammar), (situations.tree_won, sheet, grammar, 1),
            (grammar.check, TREE), (patterns.Pattern("em.x"), TREE, (1,)), (lambda: sheet + other,),
            (trees.with_mark, TREE, (1,), "z"), (trees.with_node, TREE, (0, 0), "y"), (marking.write_tree, TREE),
        ]

    def of_galleys(self):
        galley, book = self.galley, self.book
        table = prices.price_table(galley, book)
        laying = self.best.nth()
        return [
            (layings.moves_of, galley, book, layings.START), (layings.states_of, galley, book, laying),
            (layings.cost_of, galley, book, laying), (layings.line_width, galley, 0, 1), (prices.price_table, galley, book),
            (prices.is_right, galley, book, table), (promises.broken_at, galley, book, laying, self.fits),
            (promises.first_breaking, galley, book, self.fits), (lambda: galley.pieces,), (lambda: galley.figures,),
            (lambda: galley + galleys.Galley(),), (self.best.nth, 0), (self.best.number_of, laying), (book.changed,),
        ]

    def of_families(self):
        family, book = self.family, books.Book(4, 3)
        table = verdicts.judge(family, book, self.fits).table
        return [
            (family.galley_of, ((0, (0, 1)),)), (lambda: verdicts.judge(family, book, self.fits).table,),
            (verdicts.is_closed, family, book, self.fits, table), (verdicts.compare_books, family, book, books.Book(5, 3)),
            (fronts.Fronts(family, book, self.fits).front_of, ((0, (0, 1)),)),
            (self.trees.tree_of, ((0, (0, 1)),)), (self.trees.telling_of, ("doc", "", (("par", "", ("a",)),))),
            (judging.judge_range, self.trees, ("keep",)), (mending.mends, self.trees, ("keep",), [("strike", 0), ("add", LINES[0])]),
            (mending.changed_range, self.trees, [("strike", 0), ("book", "room", 5), ("mark", "par", "", "y")], (0, 1, 2)),
        ]

    def of_trees(self):
        setting, plate = self.setting, self.plate
        lines = describing.describe(plate, setting.faces)
        kept = tuple(facts.facts_of(setting, TREE))[:2]
        return [
            (composing.compose, setting, TREE, [4]), (composing.tokens_of, setting, TREE, (1,), [4]),
            (lambda numbers: placing.placed_signs(setting, TREE, numbers=numbers), [4]), (describing.describe, plate, setting.faces),
            (placing.plate_of, placing.placed_signs(setting, TREE)), (describing.read_description, lines, setting.faces),
            (pictures.picture, plate, setting.faces, 1), (pictures.drawn, self.ink), (facts.facts_of, setting, TREE),
            (facts.keep_facts, setting, TREE, kept), (blame.stands_as, setting, TREE, self.origin, kept),
            (blame.supports, setting, TREE, self.origin, kept), (blame.least_supports, setting, TREE, self.origin),
            (blame.mover, setting, TREE, self.origin, ()), (pagenumbers.number_places, setting.grammar, TREE),
            (pagenumbers.true_numbers, setting, TREE, [4]), (pagenumbers.settled, setting, TREE),
            (judging.lay_apart, setting, self.other), (judging.overfull_tree, setting, "ab"),
            (commands.write_laying, self.best.nth()), (desk.Desk(setting), "style root"), (desk.Desk(setting).run, ["cost", "undo"]),
        ]

    def of_objects(self):
        held = self.told_joints
        weight = {"a": 1, "b": 2}
        return [
            (held.gaps, "abab"), (held, "abab"), (held.decider, "abab", 1), (syllables.parting_word, held, joints.Joints(["a-"]), "ab"),
            (syllables.idle_joints, held, "ab"), (syllables.heaviest_syllable, held, "ab", weight),
            (lambda: syllables.overflow(held, "ab", weight, hyphen=1, room=4, first=3),), (outlines.inked, pages.BAR, 2),
            (outlines.triangles_of, pages.BAR), (outlines.count_cells, pages.BAR, 9), (lambda: self.ink | self.ink,),
            (self.ink.shifted, 1, 1), (inks.Ink.of_runs, [(0, 0, 2), (0, 1, 3)]), (self.face, "aa", 2, 1), (self.face.outline, "a"),
        ]


class ChangeTest(unittest.TestCase):
    def test_arguments_and_objects_stay_and_results_are_new(self):
        calls = Calls()
        table = calls.all()
        self.assertGreater(len(table), 75)
        for function, *given in table:
            owner = getattr(function, "__self__", function)
            before = snapshot([owner, given]), snapshot(calls)
            first = function(*given)
            held = snapshot(first)
            # A walk may note what it has found out, but it is asked for nothing else.
            self.assertEqual(snapshot(given), before[0][2], function)
            emptied(first)
            self.assertEqual(snapshot(function(*given)), held, function)
            self.assertEqual(snapshot(calls), before[1], function)

    def test_what_is_passed_may_be_changed_afterwards(self):
        rows, lines, blocks = list(grammars.USUAL_ROWS), list(LINES), list(Calls().galley)
        cells, joint_rows, pairs, tokens = [(0, 0)], ["a-b"], [("par", "")], ["a"]
        face_rows, numbers = [("a", 2, ())], [7]
        setting = Calls().setting
        made = [grammars.Grammar("doc", rows), sheets.Sheet(lines), galleys.Galley(blocks), inks.Ink(cells),
                joints.Joints(joint_rows), ranges.Range(setting, pairs, tokens), faces.Face("x", 1, 1, face_rows),
                composing.compose(setting, TREE, numbers), desk.Desk(setting)]
        before = snapshot(made)
        for some in (rows, lines, blocks, cells, joint_rows, pairs, tokens, face_rows, numbers):
            some.clear()
        setting.faces.clear()
        setting.sheet = sheets.Sheet([])
        setting.book = books.Book(1, 1)
        self.assertEqual(snapshot(made), before)


class ErrorTest(unittest.TestCase):
    def wrong_calls(self):
        """Calls that raise, with the error and its fields."""
        calls = Calls()
        setting, tree = calls.setting, TREE
        no_sign = ((0, 0), 2, 0)
        many = marking.read_tree("[doc [par " + "x " * 41 + "]]")
        strange = marking.read_tree("[doc [em]]")
        return [
            (errors.BadMarks, (6,), lambda: marking.read_tree("[doc [")), (errors.NoPlace, ((9,),), lambda: trees.node_at(tree, (9,))),
            (errors.BadMarks, (0,), lambda: marking.read_tree("")), (errors.Strange, ((0,),), lambda: composing.compose(setting, strange)),
            (errors.TooLarge, (41,), lambda: composing.compose(setting, many)),
            (errors.TooLarge, (41,), lambda: placing.placed_signs(setting, many)),
            (errors.NoSuchNumber, (-1,), lambda: placing.placed_signs(setting, tree, which=-1)),
            (errors.BadLine, (1,), lambda: describing.read_description(["x"], setting.faces)),
            (errors.Strange, ((),), lambda: calls.trees.telling_of(tree)),
            (errors.NoSuchNumber, (9,), lambda: mending.changed_range(calls.trees, [("strike", 9)], (0,))),
            (errors.NoSign, (no_sign,), lambda: blame.least_supports(setting, tree, no_sign)),
            (errors.TooLarge, (41,), lambda: pagenumbers.settled(setting, many)),
            (errors.BadValue, ("01",), lambda: commands.read_place("01")), (errors.BadCommand, ("x",), lambda: desk.Desk(setting)("x")),
            (errors.BadBook, ("room",), lambda: calls.book.changed(room=True)), (errors.BadJoint, ("x",), lambda: joints.Joints(["x"])),
            (errors.BadLaying, (0,), lambda: layings.cost_of(calls.galley, calls.book, ((99, 0),))),
            (errors.Unknown, ("x",), lambda: situations.possible_styles(calls.sheet, calls.grammar, "x")),
            (errors.BadOutline, (0, 1), lambda: outlines.check_outline((((0, 0), (1, 1), (3, 2)),))),
            (errors.BadFace, (" ",), lambda: faces.Face("x", 1, 1, [(" ", 1, ())])),
            (errors.BadPattern, ("",), lambda: patterns.Pattern("")),
            (errors.Misfit, ("b",), lambda: grammars.Grammar("a", [("a", "root", ("b",)), ("b", "span", ())])),
            (errors.Taken, ("a",), lambda: grammars.Grammar("a", [("a", "root", ()), ("a", "root", ())])),
        ]

    def test_errors_have_their_fields_and_one_base(self):
        seen = set()
        for error, fields, call in self.wrong_calls():
            with self.assertRaises(errors.LaidError) as caught:
                call()
            self.assertIs(caught.exception.__class__, error)
            self.assertEqual(tuple(vars(caught.exception).values()), fields)
            self.assertIsInstance(caught.exception, ValueError)
            seen.add(error)
        self.assertEqual(len(seen), 18)


class BoundTest(unittest.TestCase):
    def test_the_largest_trees(self):
        told = pages.usual_plan(["em em: wide 1", "em > em: drop 1"] * 6, ["-a", "a-?"], books.Book(60, 9, columns=4))
        inner = "x"
        for _ in range(10):
            inner = f"[em.q a{inner}]"
        text = f"[doc [par {inner}]" + "[par.q Token token xxxxxxxx[see]]" * 23 + "]"
        tree = marking.read_tree(text)
        self.assertEqual(len(list(trees.all_places(tree))), 58)
        self.assertRaises(errors.TooLarge, composing.compose, told.setting(), tree)
        short = (tree[0], tree[1], tree[2][:9])
        self.assertEqual(placing.placed_signs(told.setting(), short), pages.placed(told, short))

    def test_names_and_signs(self):
        signs = "".join(chr(code) for code in range(33, 127) if chr(code) not in "%[]\\")
        told = pages.usual_plan(book=books.Book(200, 9))
        tree = ("doc", "abcdefgh", (("par", "", (signs,)),))
        self.assertEqual(marking.read_tree(marking.write_tree(tree)), tree)
        setting = told.setting()
        self.assertEqual(composing.tokens_of(setting, tree, (0,)), [signs])
        lines = describing.describe(placing.plate_of(placing.placed_signs(setting, tree)), setting.faces)
        self.assertEqual(lines[2:], [f"at 0 0 {signs}"])
        self.assertEqual(desk.Desk(setting).run([f"tree {marking.write_tree(tree)}", "page 1"]), [["ok"], lines])

    def test_numbers_of_twelve_digits(self):
        held = desk.Desk(pages.usual_plan().setting())
        self.assertEqual(held("page 999999999999"), [])
        self.assertRaises(errors.BadCommand, held, "page 1000000000000")
        self.assertEqual(commands.read_place("999999999999"), (999999999999,))
        self.assertRaises(errors.BadValue, commands.read_place, "1000000000000")

    def test_random_trees_at_the_desk(self):
        for seed in range(30):
            rnd = samples.chance(seed)
            told = pages.random_plan(rnd)
            held = desk.Desk(told.setting())
            tree = pages.random_tree(rnd, told, 12)
            held(f"tree {marking.write_tree(tree)}")
            self.assertEqual(held.tree, tree)


if __name__ == "__main__":
    unittest.main()
