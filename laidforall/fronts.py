"""Fronts: what a telling comes to, as far as it makes a difference for what follows.

A front is a tuple of entries (line, cost, is broken), in order: the open
lines (see presses.py) with which a best laying may still go on, what the
cheapest way to each costs more than the cheapest of all, and whether one of
these cheapest ways has broken the promise. The front is empty if none has, and if
none of these lines can lead to a broken promise.
"""

from laidforall.margins import Margins
from laidforall.presses import NEW_BLOCK, Press, put
from laidforall.steps import BLANK_TIE


class Fronts:
    """The fronts of the tellings of a family, with a book and a promise."""

    def __init__(self, family, book, promise):
        self._press = Press(family, book, promise)
        self._margins = Margins(self._press)
        self._safe = self._safe_lines()

    def _safe_lines(self):
        """Return a dict of the pairs (case, line) from which the promise cannot be broken any more."""
        ahead = {}
        waiting = []
        for case, line in self._margins.all_lines():
            if self._press.last_line(line[3])[1]:
                waiting.append((case, line))
            for border, later, shape in self._press.reads_behind(case):
                for other, _, breaks in self._press.read(border, case, later, shape, line):
                    ahead.setdefault((later, other), []).append((case, line))
                    if breaks:
                        waiting.append((case, line))
        risky = {}
        while waiting:
            spot = waiting.pop()
            if spot not in risky:
                risky[spot] = True
                waiting.extend(ahead.get(spot, []))
        return {spot: True for spot in self._margins.all_lines() if spot not in risky}

    def start(self, case, shape):
        """Return the front of the telling of one shape."""
        return self._front(case, self._press.started(case, shape))

    def more(self, case, front, shape):
        """Return the front with one more shape in the last block."""
        return self._behind_shape(BLANK_TIE, case, front, case, shape)

    def behind(self, case, front, next_case, shape):
        """Return the front with a further block of one shape."""
        return self._behind_shape(NEW_BLOCK, case, front, next_case, shape)

    def _behind_shape(self, border, before, front, case, shape):
        """Return the front behind a further shape."""
        vector = {}
        for line, cost, is_broken in front:
            for later, more, breaks in self._press.read(border, before, case, shape, line):
                put(vector, later, cost + more, is_broken or breaks)
        return self._front(case, [(line, vector[line][0], vector[line][1]) for line in vector])

    def _front(self, case, entries):
        """Return the front of some entries, which may be too dear."""
        useful = self._margins.useful(case, entries)
        if all([(case, line) in self._safe and not is_broken for line, _, is_broken in useful]):
            return ()
        least = min([entry[1] for entry in entries])
        return tuple(sorted([(line, cost - least, is_broken) for line, cost, is_broken in useful]))

    def front_of(self, telling):
        """Return the front of a telling."""
        last, shapes = telling[0]
        front = self.start(last, shapes[0])
        front = self._with_shapes(last, front, shapes[1:])
        for case, shapes in telling[1:]:
            front = self.behind(last, front, case, shapes[0])
            front = self._with_shapes(case, front, shapes[1:])
            last = case
        return front

    def _with_shapes(self, case, front, shapes):
        """Return the front with more shapes in the last block."""
        for shape in shapes:
            front = self.more(case, front, shape)
        return front

    def breaks(self, case, front):
        """Tell whether the tellings with this front and a last block of this case break the promise."""
        ends = []
        for line, cost, is_broken in front:
            more, breaks = self._press.last_line(line[3])
            ends.append((cost + more, is_broken or breaks))
        least = min([end[0] for end in ends], default=0)
        return any([is_broken for cost, is_broken in ends if cost == least])

    def all_starts(self):
        """Return the pairs (case, shape) with which a telling may begin."""
        return self._press.all_starts()

    def reads_behind(self, case):
        """Return the triples (border, case, shape) that may follow in or behind a block."""
        return self._press.reads_behind(case)

    def read(self, before, front, read):
        """Return the front behind a further shape (border, case, shape)."""
        border, case, shape = read
        return self._behind_shape(border, before, front, case, shape)
