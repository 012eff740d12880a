"""The best layings of a galley, by their numbers."""

from laidforall.errors import NoSuchNumber
from laidforall.layings import START
from laidforall.prices import table_of
from laidforall.steps import Steps


class Best:
    """The best layings of a galley, as it is now, with a book."""

    def __init__(self, galley, book):
        self.steps = Steps(galley, book)
        self._table = table_of(self.steps)
        self.cost, self.count = self._table[START]

    def ways(self, state):
        """Return the pairs (step, next state) with which best layings go on, in order."""
        price = self._table[state][0]
        found = []
        for step, cost, later in self.steps.moves(state):
            if cost + self._table[later][0] == price:
                found.append((step, later))
        return found

    def nth(self, number=0):
        """Return the best laying with a number."""
        if not 0 <= number < self.count:
            raise NoSuchNumber(number)
        laying = []
        left = number
        state = START
        while not self.steps.is_final(state):
            for step, later in self.ways(state):
                count = self._table[later][1]
                if left < count:
                    break
                left -= count
            laying.append(step)
            state = later
        return tuple(laying)

    def rest_from(self, state):
        """Return the first steps with which a best laying goes on from a state to its end."""
        rest = []
        while not self.steps.is_final(state):
            step, state = self.ways(state)[0]
            rest.append(step)
        return tuple(rest)

    def number_of(self, laying):
        """Return the number of a tuple of steps among the best layings, or None."""
        number = 0
        state = START
        for wanted in laying:
            taken = None
            for step, later in self.ways(state):
                if step == wanted:
                    taken = later
                    break
                number += self._table[later][1]
            if taken is None:
                return None
            state = taken
        return number if self.steps.is_final(state) else None

    def every_best(self):
        """Yield the best layings, in order."""
        # Of the entries (laying so far, its state), the last comes first in order.
        waiting = [((), START)]
        while waiting:
            laying, state = waiting.pop()
            if self.steps.is_final(state):
                yield laying
            ways = self.ways(state)
            ways.reverse()
            waiting.extend([(laying + (step,), later) for step, later in ways])
