"""Inks: finite sets of cells, kept as runs."""


def _joined(runs):
    """Return the runs of the cells of some runs, which may overlap, in order."""
    found = []
    for y, start, end in sorted(runs):
        if found and found[-1][0] == y and start <= found[-1][2]:
            found[-1] = (y, found[-1][1], max(found[-1][2], end))
        else:
            found.append((y, start, end))
    return found


def _combined(first, second, wanted):
    """Return the runs of the cells of two lists of runs whose owner is wanted.

    The owner of a cell is 1 for the first list, 2 for the second, 3 for both.
    """
    edges = [(y, x, 1) for y, start, end in first for x in (start, end)]
    others = [(y, x, 2) for y, start, end in second for x in (start, end)]
    ordered = sorted(edges + others)
    found = []
    owner = 0
    for at in range(len(ordered) - 1):
        y, x, side = ordered[at]
        owner = owner ^ side
        # Each row of cells ends with the owner 0, so the next edge is in this row.
        end = ordered[at + 1][1]
        if owner in wanted and x < end:
            found.append((y, x, end))
    return _joined(found)


def _ink_of(runs):
    """Return the ink with these runs, which are in order and do not touch."""
    ink = Ink()
    ink.runs = tuple(runs)
    ink.many = sum([end - start for _, start, end in runs])
    return ink


class Ink:
    """A finite set of cells (x, y)."""

    def __init__(self, cells=()):
        runs = _joined([(y, x, x + 1) for x, y in cells])
        self.runs = tuple(runs)
        self.many = sum([end - start for _, start, end in runs])

    @staticmethod
    def of_runs(runs):
        """Return the ink of the cells of a list of runs, which may overlap."""
        return _ink_of(_joined(runs))

    def __len__(self):
        return len(range(self.many))

    def __iter__(self):
        return iter(self.runs)

    def __contains__(self, cell):
        x, y = cell
        low = 0
        high = len(self.runs)
        while low < high:
            middle = (low + high) // 2
            # The last run that begins at or before the cell is the one to ask.
            if self.runs[middle][:2] <= (y, x):
                low = middle + 1
            else:
                high = middle
        return low > 0 and self.runs[low - 1][0] == y and x < self.runs[low - 1][2]

    def __eq__(self, other):
        if not isinstance(other, Ink):
            return NotImplemented
        return self.runs == other.runs

    def __or__(self, other):
        if not isinstance(other, Ink):
            return NotImplemented
        return _ink_of(_combined(self.runs, other.runs, (1, 2, 3)))

    def __and__(self, other):
        if not isinstance(other, Ink):
            return NotImplemented
        return _ink_of(_combined(self.runs, other.runs, (3,)))

    def __sub__(self, other):
        if not isinstance(other, Ink):
            return NotImplemented
        return _ink_of(_combined(self.runs, other.runs, (1,)))

    def __xor__(self, other):
        if not isinstance(other, Ink):
            return NotImplemented
        return _ink_of(_combined(self.runs, other.runs, (1, 2)))

    def shifted(self, right, down):
        """Return the ink with all cells moved."""
        return _ink_of([(y + down, start + right, end + right) for y, start, end in self.runs])
