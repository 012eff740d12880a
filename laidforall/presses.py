"""What reading on does to the open line and column of a telling.

A spot is what has to be known of the layings of a telling. Behind a shape it
is an open line (width, used, mode): its natural width so far, or the room + 1
if it is too wide; the used height of its column, but at most the height of
the book; and how it began. At the end of a block it is only the used height.

A read is a tuple (border, keeps, case, shape): what stands ahead of a shape (the
telling begins there, or a blank stands there, or a block behind one that keeps
or not), and the case and the shape. CLOSES is the read that ends a block.
"""

from laidforall.promises import EMPTY, FITS, KEEP, LOOSE, ORPHAN, WIDOW

NO_BORDER = "start"

BLANK_BORDER = "blank"

BLOCK_BORDER = "block"

CLOSES = ("end", False, 0, 0)

# The spot ahead of a telling.
AHEAD = 0

# How an open line began: as the first one of its block, as another one on top
# of a further column, or otherwise.
FIRST = 0

TOP = 1

INNER = 2

# What a piece can do: join the line, begin a line, begin a column.
JOINS = 0

NEXT_LINE = 1

NEXT_COLUMN = 2


def put(vector, spot, cost, is_broken):
    """Note in a dict from spots to (cost, is broken) that a spot is reached at a cost."""
    old = vector.get(spot)
    if old is None or cost < old[0]:
        vector[spot] = (cost, is_broken)
    elif is_broken and cost == old[0]:
        vector[spot] = (cost, True)


class Press:
    """The costs of the layings of a family with a book, and what breaks a promise (or None).

    Within a shape an open line is a tuple (width, used, mode, is_single), and
    is_single tells whether it has only one piece.
    """

    def __init__(self, family, book, promise=None, other_book=None):
        self.family = family
        self.book = book
        self._promise = ("",) if promise is None else promise
        # How a line began is forgotten where no book asks for it.
        books = [book] if other_book is None else [book, other_book]
        self._tells_first = self._forbids(ORPHAN) or any([told.orphan > 0 for told in books])
        self._tells_top = self._forbids(WIDOW) or any([told.widow > 0 for told in books])
        self._paths = {}
        self._ways = {}

    def start_reads(self):
        """Return the reads with which a telling may begin."""
        return [read for case in self.family.firsts for read in self._reads(NO_BORDER, False, case)]

    def inner_reads(self, case):
        """Return the reads that may follow in a block."""
        return self._reads(BLANK_BORDER, False, case)

    def end_of(self, case):
        """Return what has to be known of the case of a block behind its end: (keeps, follows)."""
        return self.family.cases[case][3], self.family.follows[case]

    def block_reads(self, end):
        """Return the reads that may follow behind the end of a block."""
        keeps, follows = end
        return [read for later in follows for read in self._reads(BLOCK_BORDER, keeps, later)]

    def _reads(self, border, keeps, case):
        """Return the reads of all shapes of a case behind a border."""
        return [(border, keeps, case, shape) for shape in range(len(self.family.cases[case][6]))]

    def ways(self, read, spot):
        """Return the list of (later spot, cost, is broken) of the cheapest paths over a read."""
        key = (read, spot)
        if key not in self._ways:
            found = {}
            for later, cost, is_broken in self.paths(read, spot).values():
                put(found, later, cost, is_broken)
            self._ways[key] = [(later,) + found[later] for later in found]
        return self._ways[key]

    def paths(self, read, spot):
        """Return the dict from tuples of actions to (later spot, cost, is broken)."""
        key = (read, spot)
        if key not in self._paths:
            self._paths[key] = self._found_paths(read, spot)
        return self._paths[key]

    def _found_paths(self, read, spot):
        """Find the paths over a read."""
        if read == CLOSES:
            return {(): (spot[1],) + self._last_line(spot[2])}
        case = read[2]
        widths = self.family.cases[case][6][read[3]]
        found = self._begun(read, widths[0], spot)
        for width in widths[1:]:
            longer = []
            for actions, line, cost, is_broken in found:
                for action, later, more, breaks in self._behind_joint(case, width, line):
                    longer.append((actions + (action,), later, cost + more, is_broken or breaks))
            found = longer
        return {actions: self._settled(line, cost, is_broken)
                for actions, line, cost, is_broken in found}

    def _begun(self, read, width, spot):
        """Return the list of (actions, line, cost, is broken) behind the first piece of a read."""
        border, keeps, case, _ = read
        if border == NO_BORDER:
            return [((),) + self._on_top(case, width, FIRST, 0, False)]
        if border == BLOCK_BORDER:
            found = self._behind_block(keeps, case, width, spot)
        else:
            found = self._behind_blank(case, width, spot)
        return [((action,), line, cost, is_broken) for action, line, cost, is_broken in found]

    def _line(self, case, width, mode, used):
        """Return the open line of one piece below a used height, which may be too high."""
        height, indent, before, _, _, _, _ = self.family.cases[case]
        if mode == FIRST:
            return width + indent, used + height + before, mode, True
        return width, used + height, mode, True

    def _on_top(self, case, width, mode, cost, is_broken):
        """Return (line, cost, is broken) for a piece that begins a column."""
        line = self._line(case, width, mode, 0)
        if line[1] <= self.book.height:
            return line, cost, is_broken
        capped = (line[0], self.book.height, mode, True)
        return capped, cost, is_broken or self._forbids(FITS)

    def _behind_block(self, keeps, case, width, used):
        """Return the list of (action, line, cost, is broken) for the first piece of a further block."""
        found = []
        line = self._line(case, width, FIRST, used)
        if line[1] <= self.book.height:
            found.append((NEXT_LINE, line, 0, False))
        cost, is_broken = self._column_end(used)
        if keeps:
            cost += self.book.keep
            is_broken = is_broken or self._forbids(KEEP)
        found.append((NEXT_COLUMN,) + self._on_top(case, width, FIRST, cost, is_broken))
        return found

    def _behind_blank(self, case, width, spot):
        """Return the list of (action, line, cost, is broken) for a piece behind a blank."""
        inner, used, mode = spot
        found = []
        longer = inner + self.family.cases[case][4] + width
        if longer <= self.book.room:
            found.append((JOINS, (longer, used, mode, False), 0, False))
        # What a line is too wide has been counted.
        gap = max(0, self.book.room - inner)
        found.extend(self._next_lines(case, width, spot, gap * gap, self._forbids(LOOSE, gap)))
        return found

    def _behind_joint(self, case, width, line):
        """Return the list of (action, line, cost, is broken) for a piece behind a joint."""
        inner, used, mode, is_single = line
        book = self.book
        found = []
        if inner + width <= book.room:
            found.append((JOINS, (inner + width, used, mode, False), 0, False))
        whole = inner + self.family.cases[case][5]
        if whole <= book.room:
            gap = book.room - whole
            cost = book.joint + gap * gap
            found.extend(self._next_lines(case, width, line, cost, self._forbids(LOOSE, gap)))
        elif is_single:
            cost = book.joint + book.over * (whole - book.room)
            found.extend(self._next_lines(case, width, line, cost, self._forbids(FITS)))
        return found

    def _next_lines(self, case, width, line, cost, is_broken):
        """Return the list of (action, line, cost, is broken) for a piece behind a line that ended."""
        found = []
        used = line[1]
        later = self._line(case, width, INNER, used)
        if later[1] <= self.book.height:
            found.append((NEXT_LINE, later, cost, is_broken))
        more, breaks = self._column_end(used)
        if line[2] == FIRST:
            more += self.book.orphan
            breaks = breaks or self._forbids(ORPHAN)
        found.append((NEXT_COLUMN,) + self._on_top(case, width, TOP, cost + more, is_broken or breaks))
        return found

    def _column_end(self, used):
        """Return (cost, is broken) of ending a column for its free height."""
        free = self.book.height - used
        return free * free, self._forbids(EMPTY, free)

    def _last_line(self, mode):
        """Return (cost, is broken) of a line for being the last one of its block."""
        if mode == TOP:
            return self.book.widow, self._forbids(WIDOW)
        return 0, False

    def _settled(self, line, cost, is_broken):
        """Return (spot, cost, is broken) for a line behind a whole shape."""
        width, used, mode, _ = line
        if mode == FIRST and not self._tells_first or mode == TOP and not self._tells_top:
            mode = INNER
        over = width - self.book.room
        if over <= 0:
            return (width, used, mode), cost, is_broken
        spot = (self.book.room + 1, used, mode)
        return spot, cost + self.book.over * over, is_broken or self._forbids(FITS)

    def _forbids(self, name, amount=0):
        """Tell whether the promise has this name and a bound, if any, below an amount."""
        if self._promise[0] != name:
            return False
        return len(self._promise) == 1 or amount > self._promise[1]
