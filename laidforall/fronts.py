"""Fronts: what a telling comes to, as far as it makes a difference for what follows.

What a front holds is told in readings.py.
"""

from laidforall.grounds import OUTSIDE, Ground
from laidforall.presses import AHEAD, BLANK_BORDER, BLOCK_BORDER, CLOSES, NO_BORDER, Press
from laidforall.readings import Reading, drop_harmless, risky_spots
from laidforall.ways import Ways


class Fronts:
    """The fronts of the tellings of a family, with a book and a promise.

    The attribute press tells what may follow, and origin is the front ahead of a telling.
    """

    def __init__(self, family, book, promise):
        self.press = Press(family, book, promise)
        self.origin = ((AHEAD, 0, False),)
        ground = Ground(self.press)
        ways = Ways(ground)
        drop_harmless(ground, ways)
        self._reading = Reading(ways, risky_spots(ground, ways), True)

    def start(self, case, shape):
        """Return the front of the telling of one shape."""
        return self.read(OUTSIDE, self.origin, (NO_BORDER, False, case, shape))

    def more(self, case, front, shape):
        """Return the front with one more shape in the last block."""
        return self.read(case, front, (BLANK_BORDER, False, case, shape))

    def behind(self, case, front, next_case, shape):
        """Return the front with a further block of one shape."""
        end = self.press.end_of(case)
        return self.read(end, self.ended(case, front), (BLOCK_BORDER, end[0], next_case, shape))

    def ended(self, case, front):
        """Return the front at the end of a block."""
        return self._reading.behind(case, front, CLOSES, self.press.end_of(case))

    def read(self, place, front, read):
        """Return the front behind a read from a place."""
        return self._reading.behind(place, front, read, read[2])

    def front_of(self, telling):
        """Return the front of a telling."""
        last, shapes = telling[0]
        front = self._with_shapes(last, self.start(last, shapes[0]), shapes[1:])
        for case, shapes in telling[1:]:
            front = self.behind(last, front, case, shapes[0])
            front = self._with_shapes(case, front, shapes[1:])
            last = case
        return front

    def _with_shapes(self, case, front, shapes):
        """Return the front with more shapes in the last block."""
        for shape in shapes:
            front = self.more(case, front, shape)
        return front

    def breaks(self, case, front):
        """Tell whether the tellings with this front and a last block of this case break the promise."""
        ends = self._reading.passed(case, front, CLOSES)
        least = min([cost for _, cost, _ in ends], default=0)
        return any([is_broken for _, cost, is_broken in ends if cost == least])
