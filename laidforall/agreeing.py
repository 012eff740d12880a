"""What a telling comes to with two books at once.

A double front is a tuple (costs, other costs, shared, alone, other alone), all
of them tuples in order. The first two hold the pairs (spot, cost) with the one
and with the other book, as a front does. Shared holds the pairs of spots to
which some laying comes that is a cheapest way there with both books. Alone
holds the spots to which some laying comes that is a cheapest way with the one
book only, and other alone the same for the other book.
"""

from laidforall.grounds import OUTSIDE, Ground
from laidforall.presses import AHEAD, CLOSES, Press
from laidforall.ways import Ways


class Side:
    """The costs with one of the two books."""

    def __init__(self, family, book, other_book):
        self.press = Press(family, book, None, other_book)
        self.ground = Ground(self.press)
        self._ways = Ways(self.ground)

    def useful_actions(self, place, read, spot):
        """Return the list of the actions of the paths over a read that are of use in some telling."""
        told = {}
        for later, cost, _ in self._ways.ways_from(place, read, spot):
            told[later] = cost
        paths = self.press.paths(read, spot)
        return [actions for actions in paths if told.get(paths[actions][0]) == paths[actions][1]]

    def passed(self, place, costs, read):
        """Return the dict of the costs behind a read of some pairs (spot, cost) of a place."""
        found = {}
        for spot, cost in costs:
            for later, more, _ in self._ways.ways_from(place, read, spot):
                if later not in found or cost + more < found[later]:
                    found[later] = cost + more
        return found

    def cheapest(self, costs, behind, read):
        """Return, for each spot, the dict from its actions that are cheapest ways to what they reach."""
        found = {}
        for spot, cost in costs:
            paths = self.press.paths(read, spot)
            found[spot] = {actions: later for actions, (later, more, _) in paths.items()
                           if cost + more == behind.get(later)}
        return found

    def useful(self, place, behind):
        """Return the dict of the costs that are of use at a place, less the least of them."""
        entries = sorted(behind.items())
        least = min([cost for _, cost in entries])
        kept = self._ways.useful(place, entries, lambda entry, other: False)
        return {spot: cost - least for spot, cost in kept}

    def best(self, costs):
        """Return a dict that tells for each spot whether it gives a best laying at the end."""
        ends = {}
        for spot, cost in costs:
            ends[spot] = cost + self.press.ways(CLOSES, spot)[0][1]
        least = min(list(ends.values()))
        return {spot: ends[spot] == least for spot in ends}


class Meetings:
    """The spots that layings meet: the pairs shared, and those alone on each side."""

    def __init__(self):
        self._shared = {}
        self._alone = {}
        self._other_alone = {}

    def meet(self, spot, other):
        """Note that some laying comes to these spots; None is no cheapest way."""
        if spot is not None and other is not None:
            self._shared[(spot, other)] = True
        elif spot is not None:
            self._alone[spot] = True
        elif other is not None:
            self._other_alone[other] = True

    def told(self):
        """Return (shared, alone, other alone), all of them tuples in order."""
        return tuple(sorted(self._shared)), tuple(sorted(self._alone)), tuple(sorted(self._other_alone))


class DoubleFronts:
    """The double fronts of the tellings of a family with two books.

    The attribute press tells what may follow, and origin is the double front
    ahead of a telling.
    """

    def __init__(self, family, book, other_book):
        self._one = Side(family, book, other_book)
        self._two = Side(family, other_book, book)
        self.press = self._one.press
        self.origin = (((AHEAD, 0),), ((AHEAD, 0),), ((AHEAD, AHEAD),), (), ())

    def are_costs_alike(self):
        """Tell whether the layings that may be best all cost the same more with the other book.

        If so, the best layings of each telling are the same with both books.
        """
        surcharges = {}
        known = {}
        waiting = [(OUTSIDE, AHEAD)]
        while waiting:
            pair = waiting.pop()
            if pair not in known:
                known[pair] = True
                for read, later in self._one.ground.reads_from(pair[0]):
                    spots = self._later_spots(pair, read, surcharges)
                    if spots is None:
                        return False
                    waiting.extend([(later, spot) for spot in spots])
        return True

    def _later_spots(self, pair, read, surcharges):
        """Return the list of the spots behind a read from a (place, spot), or None if not all is alike.

        Note the surcharge of the other book for this place and read.
        """
        place, spot = pair
        paths = self._one.press.paths(read, spot)
        others = self._two.press.paths(read, spot)
        found = []
        for side in (self._one, self._two):
            for actions in side.useful_actions(place, read, spot):
                if actions not in paths or actions not in others:
                    return None
                later, cost, _ = paths[actions]
                surcharge = others[actions][1] - cost
                known = surcharges.setdefault((place, read), surcharge)
                if others[actions][0] != later or known != surcharge:
                    return None
                found.append(later)
        return found

    def ended(self, case, double):
        """Return the double front at the end of a block."""
        return self._double(case, double, CLOSES, self.press.end_of(case))

    def read(self, place, double, read):
        """Return the double front behind a read from a place."""
        return self._double(place, double, read, read[2])

    def _double(self, place, double, read, later):
        """Return the double front at a later place, to which a read leads from a place."""
        costs, others, shared, alone, other_alone = double
        behind = self._one.passed(place, costs, read)
        other_behind = self._two.passed(place, others, read)
        steps = self._one.cheapest(costs, behind, read)
        other_steps = self._two.cheapest(others, other_behind, read)
        kept = self._one.useful(later, behind)
        other_kept = self._two.useful(later, other_behind)
        met = Meetings()
        for spot, other in shared:
            _meet_behind(met, steps[spot], other_steps[other], kept, other_kept)
        for spot in alone:
            _meet_behind(met, steps[spot], {}, kept, other_kept)
        for other in other_alone:
            _meet_behind(met, {}, other_steps[other], kept, other_kept)
        return (tuple(kept.items()), tuple(other_kept.items())) + met.told()

    def differs(self, double):
        """Tell whether the best layings of a telling differ."""
        costs, others, shared, alone, other_alone = double
        best = self._one.best(costs)
        other_best = self._two.best(others)
        if any([best[spot] for spot in alone]) or any([other_best[spot] for spot in other_alone]):
            return True
        return any([best[spot] != other_best[other] for spot, other in shared])


def _meet_behind(met, own, others, kept, other_kept):
    """Note what layings meet behind a read, by the actions that are cheapest ways."""
    for actions in list(own) + [actions for actions in others if actions not in own]:
        spot = own.get(actions)
        other = others.get(actions)
        met.meet(spot if spot in kept else None, other if other in other_kept else None)
