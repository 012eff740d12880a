"""The interface of the document: names, parameters, and where things are defined."""

import importlib
import inspect
import unittest

FUNCTIONS = {
    "trees": ["all_places(tree)", "all_texts(tree)", "node_at(tree, place)", "elder_of(tree, place)",
              "with_mark(tree, place, mark)", "with_node(tree, place, node)"],
    "marking": ["write_tree(tree)", "read_tree(text)"],
    "styles": ["counts(name, role)", "style_of(sheet, tree, place)", "reason_table(sheet, tree)",
               "accepts_reasons(sheet, tree, table)"],
    "situations": ["possible_styles(sheet, grammar, kind)", "tree_with_style(sheet, grammar, kind, style)",
                   "tree_won(sheet, grammar, index)", "idle_rows(sheet, grammar)",
                   "first_parting(first, second, grammar)", "needless_rows(sheet, grammar)",
                   "least_rows(sheet, grammar)"],
    "outlines": ["check_outline(outline)", "inked(outline, size)", "triangles_of(outline)",
                 "count_cells(outline, size)", "part_size(first, second)"],
    "syllables": ["parting_word(first, second, letters)", "idle_joints(joints, letters)",
                  "heaviest_syllable(joints, letters, weight)",
                  "overflow(joints, letters, weight, *, hyphen, room, first)"],
    "layings": ["line_width(galley, start, end)", "line_gap(galley, book, start, end)",
                "line_cost(galley, book, start, end)", "moves_of(galley, book, state)",
                "final_cost(galley, book, state)", "states_of(galley, book, laying)",
                "cost_of(galley, book, laying)", "every_laying(galley, book)"],
    "prices": ["price_table(galley, book)", "is_right(galley, book, table)"],
    "promises": ["broken_at(galley, book, laying, promise)", "first_breaking(galley, book, promise)"],
    "verdicts": ["judge(family, book, promise)", "is_closed(family, book, promise, table)",
                 "compare_books(family, first, second)"],
    "composing": ["compose(setting, tree, numbers=())", "tokens_of(setting, tree, place, numbers=())"],
    "placing": ["placed_signs(setting, tree, *, numbers=(), which=0)", "plate_of(placed)"],
    "describing": ["describe(plate, faces)", "read_description(lines, faces)"],
    "pictures": ["picture(plate, faces, page)", "drawn(ink)"],
    "judging": ["judge_range(trees, promise)", "lay_apart(setting, sheet)", "overfull_tree(setting, letters)"],
    "mending": ["changed_range(trees, changes, choice)", "mends(trees, promise, changes)"],
    "facts": ["facts_of(setting, tree)", "keep_facts(setting, tree, kept)"],
    "blame": ["stands_as(setting, tree, origin, kept)", "supports(setting, tree, origin, kept)",
              "least_supports(setting, tree, origin)", "mover(setting, tree, origin, kept)"],
    "pagenumbers": ["number_places(grammar, tree)", "true_numbers(setting, tree, numbers)",
                    "settled(setting, tree)"],
    "commands": ["write_place(place)", "read_place(word)", "write_laying(laying)"],
}

CLASSES = {
    "grammars": {"Grammar": ["__init__(self, root, rows)", "__getitem__", "__contains__", "__len__",
                             "__iter__", "check(self, tree)", "every_tree(self, many, marks)", "usual"]},
    "patterns": {"Pattern": ["__init__(self, text)", "__call__(self, tree, place)", "__str__", "__len__",
                             "asked", "named", "__eq__"]},
    "sheets": {"Rank": ["__init__(self, firm, marks, kinds, index)", "__eq__", "__ne__", "__lt__", "__le__",
                        "__gt__", "__ge__"],
               "Sheet": ["__init__(self, lines)", "of", "__len__", "__iter__", "__getitem__", "__eq__",
                         "__add__", "rank(self, index)", "row(self, index)", "only(self, indexes)",
                         "without(self, indexes)", "bids(self, tree, place, name)"]},
    "inks": {"Ink": ["__init__(self, cells=())", "__len__", "__contains__", "__iter__", "__eq__", "__or__",
                     "__and__", "__sub__", "__xor__", "shifted(self, right, down)", "of_runs"]},
    "faces": {"Face": ["__init__(self, name, height, blank, rows)", "__contains__", "__len__", "__iter__",
                       "advance(self, sign)", "outline(self, sign)", "__call__(self, text, size=1, wide=0)"]},
    "joints": {"Joints": ["__init__(self, lines)", "__len__", "__iter__", "decider(self, word, gap)",
                          "gaps(self, word)", "__call__(self, token)"]},
    "galleys": {"Galley": ["__init__(self, blocks=())", "__len__", "__iter__", "__eq__", "__add__", "__iadd__",
                           "pieces", "figures", "block_at(self, piece)"]},
    "books": {"Book": ["__init__(self, room, height, *, joint=0, over=100, keep=0, orphan=0, widow=0, wait=0, "
                       "columns=1, gutter=1, full=False)", "__eq__", "FIELDS", "changed(self, **fields)"]},
    "numbering": {"Best": ["__init__(self, galley, book)", "nth(self, number=0)", "number_of(self, laying)",
                           "every_best(self)"]},
    "families": {"Family": ["__init__(self, cases, firsts, follows)", "galley_of(self, telling)",
                            "every_telling(self, length)"]},
    "fronts": {"Fronts": ["__init__(self, family, book, promise)", "start(self, case, shape)",
                          "more(self, case, front, shape)", "behind(self, case, front, next_case, shape)",
                          "front_of(self, telling)", "breaks(self, case, front)"]},
    "verdicts": {"Verdict": ["__bool__"], "Kept": ["__init__(self, table)", "__bool__"],
                 "Broken": ["__init__(self, telling, laying)", "__bool__"]},
    "settings": {"Setting": ["__init__(self, grammar, sheet, faces, joints, book)", "copy(self)"],
                 "Changed": ["__init__(self, setting, *, sheet=None, book=None)", "__enter__", "__exit__"]},
    "ranges": {"Range": ["__init__(self, setting, pairs, tokens)", "tree_of(self, telling)",
                         "telling_of(self, tree)"]},
    "judging": {"BrokenTree": ["__init__(self, telling, laying, tree)", "__bool__"]},
    "desk": {"Desk": ["__init__(self, setting)", "__call__(self, line)", "run(self, lines)"],
             "Trial": ["__init__(self, desk)", "__enter__", "__exit__"]},
}


class InterfaceTest(unittest.TestCase):
    def module(self, name):
        return importlib.import_module(f"laidforall.{name}")

    def test_functions(self):
        for name, told in FUNCTIONS.items():
            for text in told:
                function = getattr(self.module(name), text.partition("(")[0])
                self.assertEqual(function.__module__, f"laidforall.{name}")
                self.assertEqual(f"{function.__name__}{inspect.signature(function)}", text)

    def test_classes(self):
        for name, classes in CLASSES.items():
            for title, told in classes.items():
                found = getattr(self.module(name), title)
                self.assertEqual(found.__module__, f"laidforall.{name}")
                for text in told:
                    method = text.partition("(")[0]
                    self.assertIn(method, vars(found))
                    if "(" in text:
                        signature = inspect.signature(vars(found)[method])
                        self.assertEqual(f"{method}{signature}", text)

    def test_generators(self):
        for name, title in (("layings", "every_laying"), ("trees", "all_places"), ("trees", "all_texts")):
            self.assertTrue(inspect.isgeneratorfunction(getattr(self.module(name), title)))
        for name, title, method in (("numbering", "Best", "every_best"), ("families", "Family", "every_telling"),
                                    ("grammars", "Grammar", "every_tree")):
            self.assertTrue(inspect.isgeneratorfunction(vars(getattr(self.module(name), title))[method]))


if __name__ == "__main__":
    unittest.main()
