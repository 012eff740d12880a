"""[51] and laidforall/books.py."""

import unittest

from laidforall.books import Book
from laidforall.errors import BadBook

RANGES = {
    "room": (1, 2000), "height": (1, 2000), "joint": (0, 2000), "over": (0, 2000), "keep": (0, 2000),
    "orphan": (0, 2000), "widow": (0, 2000), "wait": (0, 2000), "columns": (1, 4), "gutter": (0, 40),
}

FIELDS = tuple(RANGES) + ("full",)


def made(**told):
    """A book with the room and the height by position."""
    told = {"room": 20, "height": 10, **told}
    return Book(told.pop("room"), told.pop("height"), **told)


class BookTest(unittest.TestCase):
    def assert_bad(self, field, call, *args, **told):
        with self.assertRaises(BadBook) as caught:
            call(*args, **told)
        self.assertEqual(caught.exception.field, field)

    def test_fields_and_defaults(self):
        self.assertEqual(Book.FIELDS, FIELDS)
        book = Book(20, 10)
        self.assertEqual([getattr(book, name) for name in FIELDS], [20, 10, 0, 100, 0, 0, 0, 0, 1, 1, False])
        book = Book(1, 2, joint=3, over=4, keep=5, orphan=6, widow=7, wait=8, columns=2, gutter=9, full=True)
        self.assertEqual([getattr(book, name) for name in FIELDS], [1, 2, 3, 4, 5, 6, 7, 8, 2, 9, True])

    def test_ends_of_ranges(self):
        for name, (least, greatest) in RANGES.items():
            for value in (least, greatest):
                self.assertEqual(getattr(made(**{name: value}), name), value)
                self.assertEqual(getattr(Book(20, 10).changed(**{name: value}), name), value)
            for value in (least - 1, greatest + 1, -2001, 10 ** 30):
                self.assert_bad(name, made, **{name: value})
                self.assert_bad(name, Book(20, 10).changed, **{name: value})

    def test_values_of_other_kinds(self):
        for name in RANGES:
            for value in (True, False, 1.0, "1", None, [1], (1,), 1j, b"1"):
                self.assert_bad(name, made, **{name: value})
        for value in (0, 1, "", None, 2, [], "True"):
            self.assert_bad("full", made, full=value)

    def test_the_first_bad_parameter(self):
        for at, name in enumerate(FIELDS):
            bad = {other: None for other in reversed(FIELDS[at:])}
            self.assert_bad(name, made, **bad)
        self.assert_bad("room", Book, 0, 0, full=3)
        self.assert_bad("height", Book, 1, 0, full=3)

    def test_changed(self):
        book = Book(20, 10, wait=3)
        other = book.changed(room=5, full=True)
        self.assertEqual([getattr(other, name) for name in FIELDS], [5, 10, 0, 100, 0, 0, 0, 3, 1, 1, True])
        self.assertEqual(book, Book(20, 10, wait=3))
        self.assertEqual(book.changed(), book)
        self.assertIsNot(book.changed(), book)

    def test_changed_with_other_names(self):
        book = Book(20, 10)
        self.assert_bad("width", book.changed, width=1)
        self.assert_bad("nose", book.changed, room=0, nose=1, mouth=2)
        self.assert_bad("mouth", book.changed, mouth=2, room=0, nose=1)
        self.assert_bad("FIELDS", book.changed, FIELDS=())
        self.assert_bad("room", book.changed, height=0, room=0)
        self.assertEqual(book, Book(20, 10))

    def test_equality(self):
        self.assertEqual(Book(20, 10), Book(20, 10, over=100, gutter=1))
        for name in FIELDS[:-1]:
            self.assertNotEqual(Book(20, 10), Book(20, 10).changed(**{name: 2}))
        self.assertNotEqual(Book(20, 10), Book(20, 10, full=True))
        self.assertNotEqual(Book(20, 10), (20, 10))
        self.assertFalse(Book(20, 10) == 20)

    def test_the_class_itself_has_its_methods(self):
        for name in ("__init__", "__eq__", "changed", "FIELDS"):
            self.assertIn(name, vars(Book))


if __name__ == "__main__":
    unittest.main()
