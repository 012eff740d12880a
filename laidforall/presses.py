"""What reading on does to the open line and column of a telling.

An open line is a tuple (width, is_single, used, mode): its natural width so
far, without a hyphen; whether it has only one piece; the used height of its
column, but at most the height of the book; and how it began. Behind a whole
shape it is plain: is_single is False, and a line that is too wide to go on has
the width room + 1, as its cost has been counted.

A border tells what stands ahead of a piece: a joint, a blank or a new block.
"""

from laidforall.promises import EMPTY, FITS, KEEP, LOOSE, ORPHAN, WIDOW
from laidforall.steps import BLANK_TIE, JOINT_TIE

NEW_BLOCK = "block"

# How an open line began: as the first one of its block, as another one on top
# of a further column, or otherwise.
FIRST = 0

TOP = 1

INNER = 2

# What a piece can do: join the line, begin a line, begin a column.
JOINS = 0

NEXT_LINE = 1

NEXT_COLUMN = 2


def put(vector, line, cost, is_broken):
    """Note in a dict from lines to (cost, is broken) that a line is reached at a cost."""
    old = vector.get(line)
    if old is None or cost < old[0]:
        vector[line] = (cost, is_broken)
    elif cost == old[0] and is_broken:
        vector[line] = (cost, True)


class Press:
    """The costs of the layings of a family with a book, and what breaks a promise (or None)."""

    def __init__(self, family, book, promise=None):
        self.family = family
        self.book = book
        self._promise = ("",) if promise is None else promise
        self._ways = {}
        self._reads = {}

    def _forbids(self, name, amount=0):
        """Tell whether the promise has this name and a bound, if any, below an amount."""
        if self._promise[0] != name:
            return False
        return len(self._promise) == 1 or amount > self._promise[1]

    def opened(self, case, width):
        """Return (line, cost, is broken) for the first piece of a telling."""
        line = self._line(case, width, FIRST, 0)
        return self._capped(line, 0, False)

    def _line(self, case, width, mode, used):
        """Return the open line of one piece on top of a used height, which may be too high."""
        height, indent, before, _, _, _, _ = self.family.cases[case]
        if mode == FIRST:
            return width + indent, True, used + height + before, mode
        return width, True, used + height, mode

    def _capped(self, line, cost, is_broken):
        """Return (line, cost, is broken) for a begun line that may be too high."""
        width, is_single, used, mode = line
        is_high = used > self.book.height
        capped = (width, is_single, min(used, self.book.height), mode)
        return capped, cost, is_broken or is_high and self._forbids(FITS)

    def ways(self, border, before, case, width, line):
        """Return the list of (action, line, cost, is broken) that a piece leads to.

        The piece has this width and stands behind this border in a block of
        this case; the line is that of the piece ahead of it, in a block of
        the case before.
        """
        key = (border, before, case, width, line)
        if key not in self._ways:
            self._ways[key] = self._found_ways(border, before, case, width, line)
        return self._ways[key]

    def _found_ways(self, border, before, case, width, line):
        """Find what a piece leads to."""
        found = []
        joined = self._longer(border, case, width, line)
        if joined is not None:
            found.append((JOINS, joined, 0, False))
        ended = self._ended(border, before, line)
        if ended is None:
            return found
        cost, is_broken = ended
        mode = FIRST if border == NEW_BLOCK else INNER
        later = self._line(case, width, mode, line[2])
        if later[2] <= self.book.height:
            found.append((NEXT_LINE, later, cost, is_broken))
        more, is_bad = self._column_ended(border, before, line)
        mode = FIRST if border == NEW_BLOCK else TOP
        later = self._line(case, width, mode, 0)
        told = self._capped(later, cost + more, is_broken or is_bad)
        found.append((NEXT_COLUMN,) + told)
        return found

    def _longer(self, border, case, width, line):
        """Return the line with a further piece, or None if it cannot join."""
        if border == NEW_BLOCK:
            return None
        longer = line[0] + width
        if border == BLANK_TIE:
            longer += self.family.cases[case][4]
        if longer > self.book.room:
            return None
        return longer, False, line[2], line[3]

    def _ended(self, border, case, line):
        """Return (cost, is broken) if a line ends at a border, or None if it may not."""
        width, is_single, _, mode = line
        book = self.book
        if border == NEW_BLOCK:
            return self.last_line(mode)
        cost = 0
        if border == JOINT_TIE:
            width += self.family.cases[case][5]
            if width > book.room and not is_single:
                return None
            cost = book.joint + book.over * max(0, width - book.room)
            if width > book.room:
                return cost, self._forbids(FITS)
        # Behind a shape, a line that is too wide has been counted.
        gap = max(0, book.room - width)
        return cost + gap * gap, self._forbids(LOOSE, gap)

    def last_line(self, mode):
        """Return (cost, is broken) of a line for being the last one of its block."""
        if mode == TOP:
            return self.book.widow, self._forbids(WIDOW)
        return 0, False

    def _column_ended(self, border, case, line):
        """Return (cost, is broken) if a column ends with a line at a border."""
        _, _, used, mode = line
        free = self.book.height - used
        cost = free * free
        is_broken = self._forbids(EMPTY, free)
        if border == NEW_BLOCK:
            if self.family.cases[case][3]:
                cost += self.book.keep
                is_broken = is_broken or self._forbids(KEEP)
        elif mode == FIRST:
            cost += self.book.orphan
            is_broken = is_broken or self._forbids(ORPHAN)
        return cost, is_broken

    def settled(self, line):
        """Return (line, cost, is broken) for the plain form of a line behind a whole shape."""
        width, _, used, mode = line
        if mode == FIRST and self.book.orphan == 0 and not self._forbids(ORPHAN):
            mode = INNER
        if mode == TOP and self.book.widow == 0 and not self._forbids(WIDOW):
            mode = INNER
        over = max(0, width - self.book.room)
        plain = (min(width, self.book.room + 1), False, used, mode)
        return plain, self.book.over * over, over > 0 and self._forbids(FITS)

    def started(self, case, shape):
        """Return the list of (line, cost, is broken) behind the first shape of a telling."""
        widths = self.family.cases[case][6][shape]
        line, cost, is_broken = self.opened(case, widths[0])
        vector = {line: (cost, is_broken)}
        for width in widths[1:]:
            vector = self._passed(vector, JOINT_TIE, case, case, width)
        return self._all_settled(vector)

    def read(self, border, before, case, shape, line):
        """Return the list of (line, cost, is broken) behind a further shape, without worse ones."""
        key = (border, before, case, shape, line)
        if key not in self._reads:
            widths = self.family.cases[case][6][shape]
            vector = self._passed({line: (0, False)}, border, before, case, widths[0])
            for width in widths[1:]:
                vector = self._passed(vector, JOINT_TIE, case, case, width)
            self._reads[key] = self._all_settled(vector)
        return self._reads[key]

    def _passed(self, vector, border, before, case, width):
        """Return the lines behind a further piece, with (cost, is broken) of the cheapest ways."""
        found = {}
        for line, (cost, is_broken) in vector.items():
            for _, later, more, breaks in self.ways(border, before, case, width, line):
                put(found, later, cost + more, is_broken or breaks)
        return found

    def _all_settled(self, vector):
        """Return the list of (line, cost, is broken) of the plain forms of some lines."""
        found = {}
        for line, (cost, is_broken) in vector.items():
            later, more, breaks = self.settled(line)
            put(found, later, cost + more, is_broken or breaks)
        return [(line, cost, is_broken) for line, (cost, is_broken) in found.items()]

    def reads_behind(self, case):
        """Return the triples (border, case, shape) that may follow in or behind a block."""
        cases = self.family.cases
        found = [(BLANK_TIE, case, shape) for shape in range(len(cases[case][6]))]
        for later in self.family.follows[case]:
            found.extend([(NEW_BLOCK, later, shape) for shape in range(len(cases[later][6]))])
        return found

    def all_starts(self):
        """Return the pairs (case, shape) with which a telling may begin."""
        cases = self.family.cases
        return [(case, shape) for case in self.family.firsts for shape in range(len(cases[case][6]))]
