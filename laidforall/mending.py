"""Mending: the fewest changes of a range with which it keeps a promise."""

from laidforall.books import Book
from laidforall.errors import BadBook
from laidforall.judging import judge_range
from laidforall.ranges import Range
from laidforall.sheets import Sheet

STRIKE = "strike"

ADD = "add"

MARK = "mark"


class Change:
    """A range that is being changed; strikes are noted until all changes are made."""

    def __init__(self, trees):
        self._sheet = trees.setting.sheet
        self._book = trees.setting.book
        self._pairs = trees.told_pairs()
        self._struck = []
        self._added = []

    def make(self, change):
        """Make a change, a tuple; raise BadLine, BadBook or NoSuchNumber if it cannot be made."""
        name = change[0]
        if name == STRIKE:
            self._sheet.row(change[1])
            self._struck.append(change[1])
        elif name == ADD:
            self._added.extend(list(Sheet([change[1]])))
        elif name == MARK:
            _, kind, old, new = change
            self._pairs = [(kind, new) if pair == (kind, old) else pair for pair in self._pairs]
        else:
            self._change_book(change[1], change[2])

    def _change_book(self, field, value):
        """Change a field of the book."""
        # A field may have the name of what a call passes besides.
        if field not in Book.FIELDS:
            raise BadBook(field)
        told = {field: value}
        self._book = self._book.changed(**told)

    def made_of(self, trees):
        """Return the changed range; raise TooLarge if the sheet has too many rows."""
        setting = trees.setting.copy()
        setting.sheet = Sheet(list(self._sheet.without(self._struck)) + self._added)
        setting.book = self._book
        pairs = []
        for pair in self._pairs:
            if pair not in pairs:
                pairs.append(pair)
        return Range(setting, pairs, trees.told_words())


def changed_range(trees, changes, choice):
    """Return the range after the changes of a choice."""
    change = Change(trees)
    for index in choice:
        change.make(changes[index])
    return change.made_of(trees)


def _choices(many, size, start=0):
    """Return the list of the ascending tuples of so many indexes, in order."""
    if size == 0:
        return [()]
    found = []
    for first in range(start, many):
        found.extend([(first,) + others for others in _choices(many, size - 1, first + 1)])
    return found


def mends(trees, promise, changes):
    """Return the list of the choices with the fewest changes after which a range keeps a promise."""
    for size in range(len(changes) + 1):
        found = []
        for choice in _choices(len(changes), size):
            if judge_range(changed_range(trees, changes, choice), promise):
                found.append(choice)
        if found:
            return found
    return []
