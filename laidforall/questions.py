"""The questions about all trees for which a walk is made (see walking.py).

A contest is a list of rows of a sheet for one property, from the greatest
rank to the least, as tuples (bit, value, index): the bit of the pattern of
the row, its value and its index.
"""

from laidforall.patterns import ANY_KIND
from laidforall.reaching import Reaching, kinds_below
from laidforall.styles import DEFAULTS, HANDED_DOWN, PROPERTIES, counts, default_of


def rows_for(sheet, name):
    """Return the indexes of the rows for a property, from the greatest rank on."""
    ranks = []
    for index in range(len(sheet)):
        if sheet.row(index)[1] == name:
            ranks.append(sheet.rank(index).parts)
    return [parts[3] for parts in sorted(ranks, reverse=True)]


def _contest_of(reaching, sheet, indexes):
    """Return the contest of the rows with these indexes."""
    contest = []
    for index in indexes:
        row = sheet.row(index)
        contest.append((reaching.bit_of(row[0]), row[2], index))
    return contest


def _bits_of(contest):
    """Return the mask of the patterns of a contest."""
    mask = 0
    for entry in contest:
        mask |= entry[0]
    return mask


def _winner(contest, matched):
    """Return the entry of the row that wins, or None."""
    for entry in contest:
        if matched & entry[0]:
            return entry
    return None


def _value_of(contest, matched, otherwise):
    """Return the value of the row that wins, or another one."""
    entry = _winner(contest, matched)
    return otherwise if entry is None else entry[1]


class StyleQuestion:
    """Which styles are possible for a kind? An answer is a style."""

    def __init__(self, sheet, grammar, kind):
        self.reaching = Reaching()
        self.wanted = [kind]
        self._contests = {}
        handed = 0
        every = 0
        for name in PROPERTIES:
            contest = _contest_of(self.reaching, sheet, rows_for(sheet, name))
            self._contests[name] = contest
            every |= _bits_of(contest)
            if name in HANDED_DOWN:
                handed |= _bits_of(contest)
        below = kinds_below(grammar)
        self.ends = {other: handed if kind in below[other] else 0 for other in grammar}
        self.ends[kind] = every

    def _values(self, names, matched, otherwise):
        """Return the values of some properties; otherwise holds those without a winner."""
        found = []
        for name, value in zip(names, otherwise):
            found.append(_value_of(self._contests[name], matched, value))
        return tuple(found)

    def handed(self, matched, above):
        """Return the values that are handed down."""
        otherwise = DEFAULTS if above is None else above
        return self._values(HANDED_DOWN, matched, otherwise)

    def shown(self, kind, matched, above):
        """Return the style of an element of the wanted kind, otherwise None."""
        if kind not in self.wanted:
            return None
        many = len(HANDED_DOWN)
        rest = self._values(PROPERTIES[many:], matched, DEFAULTS[many:])
        return self.handed(matched, above) + rest


class WinQuestion:
    """Does a row win somewhere? The answer is True."""

    def __init__(self, sheet, grammar, index):
        row = sheet.row(index)
        indexes = rows_for(sheet, row[1])
        self.reaching = Reaching()
        # Rows of a lesser rank make no difference.
        stronger = indexes[:indexes.index(index) + 1]
        self._contest = _contest_of(self.reaching, sheet, stronger)
        self._index = index
        named = row[0].tests[-1][0]
        self.wanted = [kind for kind in grammar if named in (ANY_KIND, kind)]
        every = _bits_of(self._contest)
        self.ends = {kind: every if kind in self.wanted else 0 for kind in grammar}

    def handed(self, matched, above):
        """Return an empty tuple: what is handed down makes no difference."""
        return ()

    def shown(self, kind, matched, above):
        """Return True if the row wins at an element, otherwise None."""
        entry = _winner(self._contest, matched)
        return True if entry is not None and entry[2] == self._index else None


class PartQuestion:
    """Do two sheets part at some element in one property? The answer is True."""

    def __init__(self, first, second, grammar, name):
        self.reaching = Reaching()
        self._first = _contest_of(self.reaching, first, rows_for(first, name))
        self._second = _contest_of(self.reaching, second, rows_for(second, name))
        self._name = name
        self.wanted = [kind for kind in grammar if counts(name, grammar[kind][0])]
        every = _bits_of(self._first + self._second)
        self.ends = {kind: 0 for kind in grammar}
        for kind in grammar:
            if kind in self.wanted or name in HANDED_DOWN:
                self.ends[kind] = every

    def _values(self, matched, above):
        """Return the pair of the values with the one and the other sheet."""
        if above:
            first, second = above
        else:
            first = second = default_of(self._name)
        return _value_of(self._first, matched, first), _value_of(self._second, matched, second)

    def handed(self, matched, above):
        """Return the pair of values that is handed down, or an empty tuple."""
        if self._name not in HANDED_DOWN:
            return ()
        return self._values(matched, above)

    def shown(self, kind, matched, above):
        """Return True if the property counts and differs, otherwise None."""
        if kind not in self.wanted:
            return None
        first, second = self._values(matched, above)
        return True if first != second else None
