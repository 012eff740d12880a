"""What a telling comes to with two books at once.

A double front is a tuple (costs, other costs, shared, alone, other alone), all
of them tuples in order. The first two hold the pairs (line, cost) of the open
lines with the one and with the other book, as a front does. Shared holds the
pairs of lines to which some laying comes that is a cheapest way there with
both books. Alone holds the lines to which some laying comes that is a cheapest
way with the one book only, and other alone the same for the other book.
"""

from laidforall.margins import Margins
from laidforall.presses import Press
from laidforall.steps import JOINT_TIE

SETTLES = 3


class _Side:
    """The open lines with one of the two books."""

    def __init__(self, family, book):
        self.press = Press(family, book)
        self._margins = Margins(self.press)

    def opened(self, case, width):
        """Return the open line of the first piece of a telling."""
        return self.press.opened(case, width)[0]

    def _ways_over(self, spot, line):
        """Return the ways of a line over a spot, or of becoming plain if it is None."""
        if spot is None:
            return [(SETTLES,) + self.press.settled(line)]
        border, before, case, width = spot
        return self.press.ways(border, before, case, width, line)

    def passed(self, costs, spot):
        """Return the costs behind a spot, a dict from lines."""
        found = {}
        for line in costs:
            for _, later, more, _ in self._ways_over(spot, line):
                if later not in found or costs[line] + more < found[later]:
                    found[later] = costs[line] + more
        return found

    def cheapest(self, costs, behind, spot):
        """Return, for each line, the dict from its actions that are cheapest ways to what they reach."""
        found = {}
        for line in costs:
            found[line] = {}
            for action, later, more, _ in self._ways_over(spot, line):
                if costs[line] + more == behind[later]:
                    found[line][action] = later
        return found

    def useful(self, case, costs):
        """Return the costs of the lines that are of use, less the least of them."""
        least = min(list(costs.values()))
        entries = self._margins.useful(case, list(costs.items()))
        return {line: cost - least for line, cost in entries}

    def best(self, costs):
        """Return a dict that tells for each line whether it gives a best laying at the end."""
        ends = {line: costs[line] + self.press.last_line(line[3])[0] for line in costs}
        least = min(list(ends.values()))
        return {line: ends[line] == least for line in ends}


class _Met:
    """The lines that layings meet: the pairs shared, and those alone on each side."""

    def __init__(self):
        self.shared = {}
        self.alone = {}
        self.other_alone = {}

    def meet(self, line, other):
        """Note that some laying comes to these lines; None is no cheapest way."""
        if line is not None and other is not None:
            self.shared[(line, other)] = True
        elif line is not None:
            self.alone[line] = True
        elif other is not None:
            self.other_alone[other] = True

    def both_lines(self):
        """Return the list of all pairs (line, other line), with None for no cheapest way."""
        found = list(self.shared)
        found.extend([(line, None) for line in self.alone])
        found.extend([(None, line) for line in self.other_alone])
        return found


class DoubleFronts:
    """The double fronts of the tellings of a family with two books."""

    def __init__(self, family, first, second):
        self._family = family
        self._one = _Side(family, first)
        self._two = _Side(family, second)

    def reads_behind(self, case):
        """Return the triples (border, case, shape) that may follow in or behind a block."""
        return self._one.press.reads_behind(case)

    def all_starts(self):
        """Return the pairs (case, shape) with which a telling may begin."""
        return self._one.press.all_starts()

    def start(self, case, shape):
        """Return the double front of the telling of one shape."""
        widths = self._family.cases[case][6][shape]
        line = self._one.opened(case, widths[0])
        other = self._two.opened(case, widths[0])
        met = _Met()
        met.meet(line, other)
        return self._behind_pieces({line: 0}, {other: 0}, met, case, _joint_spots(case, widths))

    def read(self, before, double, read):
        """Return the double front behind a further shape (border, case, shape)."""
        border, case, shape = read
        costs, others, shared, alone, other_alone = double
        met = _Met()
        met.shared = {pair: True for pair in shared}
        met.alone = {line: True for line in alone}
        met.other_alone = {line: True for line in other_alone}
        widths = self._family.cases[case][6][shape]
        spots = [(border, before, case, widths[0])] + _joint_spots(case, widths)
        told = {line: cost for line, cost in costs}
        return self._behind_pieces(told, {line: cost for line, cost in others}, met, case, spots)

    def _behind_pieces(self, costs, others, met, case, spots):
        """Return the double front behind some pieces that end a shape."""
        for spot in spots + [None]:
            behind = self._one.passed(costs, spot)
            other_behind = self._two.passed(others, spot)
            steps = self._one.cheapest(costs, behind, spot)
            other_steps = self._two.cheapest(others, other_behind, spot)
            met = _met_behind(met, steps, other_steps)
            costs = behind
            others = other_behind
        costs = self._one.useful(case, costs)
        others = self._two.useful(case, others)
        kept = _Met()
        for line, other in met.both_lines():
            kept.meet(line if line in costs else None, other if other in others else None)
        return (
            tuple(sorted(costs.items())), tuple(sorted(others.items())), tuple(sorted(kept.shared)),
            tuple(sorted(kept.alone)), tuple(sorted(kept.other_alone)),
        )

    def differs(self, double):
        """Tell whether the best layings of a telling differ."""
        costs, others, shared, alone, other_alone = double
        best = self._one.best({line: cost for line, cost in costs})
        other_best = self._two.best({line: cost for line, cost in others})
        if any([best[line] for line in alone]) or any([other_best[line] for line in other_alone]):
            return True
        return any([best[line] != other_best[other] for line, other in shared])


def _joint_spots(case, widths):
    """Return the spots of the pieces of a shape behind its first one."""
    return [(JOINT_TIE, case, case, width) for width in widths[1:]]


def _met_behind(met, steps, other_steps):
    """Return what layings meet behind a spot, by the actions that are cheapest ways."""
    found = _Met()
    for line, other in met.both_lines():
        own = {} if line is None else steps[line]
        others = {} if other is None else other_steps[other]
        for action in list(own) + [action for action in others if action not in own]:
            found.meet(own.get(action), others.get(action))
    return found
