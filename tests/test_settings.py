"""[70] and laidforall/settings.py."""

import unittest

from laidforall.books import Book
from laidforall.faces import Face
from laidforall.grammars import Grammar
from laidforall.joints import Joints
from laidforall.settings import Changed, Setting
from laidforall.sheets import Sheet

FACES = [Face("plain", 1, 1, []), Face("bold", 2, 1, []), Face("tall", 3, 2, [])]


class SettingTest(unittest.TestCase):
    def setUp(self):
        self.grammar = Grammar.usual()
        self.sheet = Sheet.of("par: indent 1")
        self.joints = Joints(["-"])
        self.book = Book(20, 10)
        self.faces = list(FACES)
        self.setting = Setting(self.grammar, self.sheet, self.faces, self.joints, self.book)
        self.other_sheet = Sheet.of("par: indent 2")
        self.other_book = Book(5, 5)

    def held(self):
        return self.setting.sheet, self.setting.book

    def assert_before(self):
        self.assertIs(self.setting.sheet, self.sheet)
        self.assertIs(self.setting.book, self.book)

    def test_fields(self):
        setting = self.setting
        self.assertEqual((setting.grammar, setting.joints), (self.grammar, self.joints))
        self.assertEqual((setting.faces, setting.sheet, setting.book), (FACES, self.sheet, self.book))
        self.assertEqual(set(vars(setting)), {"grammar", "sheet", "faces", "joints", "book"})

    def test_copies(self):
        self.faces.pop()
        self.assertEqual(self.setting.faces, FACES)
        other = self.setting.copy()
        self.assertIsNot(other, self.setting)
        self.assertEqual((other.sheet, other.book, other.faces), (self.sheet, self.book, FACES))
        self.assertEqual((other.grammar, other.joints), (self.grammar, self.joints))
        other.sheet = self.other_sheet
        self.setting.book = self.other_book
        self.assertEqual(self.held(), (self.sheet, self.other_book))
        self.assertEqual((other.sheet, other.book), (self.other_sheet, self.book))
        other.faces.pop()
        self.assertEqual(self.setting.faces, FACES)

    def test_assignments(self):
        self.setting.sheet = self.other_sheet
        self.setting.book = self.other_book
        self.assertEqual(self.held(), (self.other_sheet, self.other_book))

    def test_changed(self):
        for told in ({"sheet": self.other_sheet}, {"book": self.other_book}, {},
                     {"sheet": self.other_sheet, "book": self.other_book},
                     {"sheet": None, "book": None}):
            with Changed(self.setting, **told) as held:
                self.assertIs(held, self.setting)
                self.assertIs(held.sheet, told.get("sheet") or self.sheet)
                self.assertIs(held.book, told.get("book") or self.book)
            self.assert_before()

    def test_an_empty_sheet_is_a_sheet(self):
        with Changed(self.setting, sheet=Sheet([])) as held:
            self.assertEqual(held.sheet, Sheet([]))
        self.assert_before()

    def test_nothing_happens_before_the_block(self):
        changed = Changed(self.setting, sheet=self.other_sheet)
        self.assert_before()
        self.setting.book = self.other_book
        with changed:
            self.assertEqual(self.held(), (self.other_sheet, self.other_book))
            self.setting.book = Book(1, 1)
        self.assertEqual(self.held(), (self.sheet, self.other_book))

    def test_assignments_within(self):
        with Changed(self.setting, sheet=self.other_sheet) as held:
            held.book = self.other_book
            held.sheet = Sheet([])
        self.assert_before()

    def test_nested(self):
        with Changed(self.setting, sheet=self.other_sheet):
            with Changed(self.setting, book=self.other_book, sheet=Sheet([])):
                self.assertEqual(self.held(), (Sheet([]), self.other_book))
            self.assertEqual(self.held(), (self.other_sheet, self.book))
        self.assert_before()

    def test_one_object_twice(self):
        changed = Changed(self.setting, sheet=self.other_sheet)
        with changed:
            self.setting.sheet = Sheet([])
            with changed as held:
                self.assertEqual(held.sheet, self.other_sheet)
            self.assertEqual(self.setting.sheet, Sheet([]))
        self.assert_before()
        with changed:
            self.assertEqual(self.setting.sheet, self.other_sheet)
        self.assert_before()

    def test_behind_an_error(self):
        with self.assertRaises(KeyError):
            with Changed(self.setting, sheet=self.other_sheet, book=self.other_book):
                raise KeyError("x")
        self.assert_before()
        with self.assertRaises(ValueError):
            with Changed(self.setting, sheet=self.other_sheet):
                with Changed(self.setting, book=self.other_book):
                    raise ValueError("x")
        self.assert_before()


if __name__ == "__main__":
    unittest.main()
