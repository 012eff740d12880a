"""Sheets: lists of rows, with their ranks."""

from laidforall.errors import BadLine, BadPattern, BadValue, NoSuchNumber, TooLarge
from laidforall.patterns import Pattern
from laidforall.trees import element_at

MOST_ROWS = 12

DIGITS = "0123456789"

# The least and the greatest value of each property. No value has two digits.
RANGES = {
    "face": (0, 2),
    "size": (1, 3),
    "wide": (0, 3),
    "drop": (0, 3),
    "indent": (0, 9),
    "before": (0, 9),
}

FIRM = "firm"


class Rank:
    """The rank of a row."""

    def __init__(self, firm, marks, kinds, index):
        self.firm = firm
        self.marks = marks
        self.kinds = kinds
        self.index = index
        self.parts = (firm, marks, kinds, index)

    def __eq__(self, other):
        if not isinstance(other, Rank):
            return NotImplemented
        return self.parts == other.parts

    def __ne__(self, other):
        if not isinstance(other, Rank):
            return NotImplemented
        return self.parts != other.parts

    def __lt__(self, other):
        if not isinstance(other, Rank):
            return NotImplemented
        return self.parts < other.parts

    def __le__(self, other):
        if not isinstance(other, Rank):
            return NotImplemented
        return self.parts <= other.parts

    def __gt__(self, other):
        if not isinstance(other, Rank):
            return NotImplemented
        return self.parts > other.parts

    def __ge__(self, other):
        if not isinstance(other, Rank):
            return NotImplemented
        return self.parts >= other.parts


def _read_value(text):
    """Return (property, value, firm) of what stands behind a pattern, or None."""
    words = text.split(" ")
    firm = len(words) == 3 and words[2] == FIRM
    if len(words) != 2 and not firm:
        return None
    name, digits = words[0], words[1]
    if name not in RANGES or len(digits) != 1 or digits not in DIGITS:
        return None
    value = int(digits)
    least, greatest = RANGES[name]
    if not least <= value <= greatest:
        return None
    return name, value, firm


def _read_row(line, number):
    """Return the row that a line is; raise BadLine with its number if it is none."""
    head, _, tail = line.partition(": ")
    try:
        pattern = Pattern(head)
    except BadPattern as wrong:
        raise BadLine(number) from wrong
    told = _read_value(tail)
    if told is None:
        raise BadLine(number) from BadValue(tail)
    name, value, firm = told
    return pattern, name, value, firm


class Sheet:
    """A list of at most twelve rows."""

    def __init__(self, lines):
        if len(lines) > MOST_ROWS:
            raise TooLarge(len(lines))
        self._lines = list(lines)
        self._rows = [_read_row(line, index + 1) for index, line in enumerate(lines)]

    @classmethod
    def of(cls, *lines):
        """Return the sheet of the written rows that are passed."""
        return cls(list(lines))

    def __len__(self):
        return len(self._lines)

    def __iter__(self):
        return iter(self._lines)

    def __getitem__(self, index):
        """Return the written row with an index."""
        if not 0 <= index < len(self._lines):
            raise NoSuchNumber(index)
        return self._lines[index]

    def __eq__(self, other):
        if not isinstance(other, Sheet):
            return NotImplemented
        return self._lines == other._lines

    def __add__(self, other):
        if not isinstance(other, Sheet):
            return NotImplemented
        return Sheet(self._lines + other._lines)

    def row(self, index):
        """Return the row with an index: (Pattern, property, value, firm)."""
        if not 0 <= index < len(self._rows):
            raise NoSuchNumber(index)
        return self._rows[index]

    def rank(self, index):
        """Return the rank of the row with an index."""
        row = self.row(index)
        pattern = row[0]
        return Rank(row[3], pattern.asked, pattern.named, index)

    def only(self, indexes):
        """Return the sheet of the rows with these indexes, in the order of this one."""
        return Sheet([line for index, line in enumerate(self._lines) if index in indexes])

    def without(self, indexes):
        """Return the sheet of the rows without these indexes."""
        return Sheet([line for index, line in enumerate(self._lines) if index not in indexes])

    def bids(self, tree, place, name):
        """Return the indexes of the rows that bid at a place for a property."""
        element_at(tree, place)
        found = []
        for index, row in enumerate(self._rows):
            pattern = row[0]
            if row[1] == name and pattern(tree, place):
                found.append(index)
        return found
