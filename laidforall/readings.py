"""How a telling is read with fronts, and from where a promise can still be broken.

A front is a tuple of entries (spot, cost, is broken), in order: the spots (see
presses.py) with which a best laying may still go on, what the cheapest way to
each costs more than the cheapest of all, and whether one of these cheapest
ways has broken the promise. It is empty if none has, and if none of these
spots can lead to a broken promise.
"""

from laidforall.grounds import is_end
from laidforall.presses import put

# More fronts are not looked at to find out that a way is of no use.
MOST_FRONTS = 100


class Reading:
    """Reading on with some ways.

    The argument risky holds the pairs (place, spot) from which the promise
    can still be broken. If is_counting is False, a way that breaks it is taken
    as one that does not.
    """

    def __init__(self, ways, risky, is_counting):
        self._ways = ways
        self._risky = risky
        self._is_counting = is_counting

    def passed(self, place, front, read):
        """Return the list of the entries behind a read from a place, in order, which may be too dear."""
        vector = {}
        for spot, cost, is_broken in front:
            for later, more, breaks in self._ways.ways_from(place, read, spot):
                put(vector, later, cost + more, is_broken or breaks and self._is_counting)
        return [(spot,) + vector[spot] for spot in sorted(vector)]

    def front(self, place, entries):
        """Return the front of some entries of a place, which may be too dear."""
        risky = self._risky

        def is_covered(entry, other):
            """Tell whether the other entry breaks the promise if this one does."""
            return other[2] or not entry[2] and (place, entry[0]) not in risky

        useful = self._ways.useful(place, entries, is_covered)
        if not any([is_broken or (place, spot) in risky for spot, _, is_broken in useful]):
            return ()
        least = min([entry[1] for entry in useful])
        return tuple([(spot, cost - least, is_broken) for spot, cost, is_broken in useful])

    def behind(self, place, front, read, later):
        """Return the front at a later place, to which a read leads from a place."""
        return self.front(later, self.passed(place, front, read))


def drop_harmless(ground, ways):
    """Leave out the ways that break the promise while it can be seen that they are of no use."""
    reading = Reading(ways, {}, False)
    for place, read, later in ground.links:
        for spot in ground.numbers[place]:
            if any([way[2] for way in ways.ways_from(place, read, spot)]):
                front = reading.front(later, _entries_beside(ways, place, read, spot))
                # If one of them may be of use, little is gained by leaving out others.
                if not _fades(reading, ground, later, front):
                    return
                ways.drop_breaking(place, read, spot)


def _entries_beside(ways, place, read, spot):
    """Return the entries behind a read from a spot and all that are reached with it.

    Broken are those that the ways from this spot break.
    """
    vector = {}
    for held, lag in ways.lagging(place, spot):
        for later, cost, breaks in ways.ways_from(place, read, held):
            put(vector, later, lag + cost, breaks and held == spot)
    return [(later,) + vector[later] for later in sorted(vector)]


def _fades(reading, ground, place, front):
    """Tell whether all entries of a front that are broken get too dear, whatever follows."""
    known = {}
    waiting = [(place, front)]
    while waiting:
        pair = waiting.pop()
        if pair[1] != () and pair not in known:
            known[pair] = True
            if len(known) > MOST_FRONTS or is_end(pair[0]) and _is_best(pair[1]):
                return False
            for read, later in ground.reads_from(pair[0]):
                waiting.append((later, reading.behind(pair[0], pair[1], read, later)))
    return True


def _is_best(front):
    """Tell whether one of the cheapest entries of a front is broken."""
    return any([is_broken for _, cost, is_broken in front if cost == 0])


def risky_spots(ground, ways):
    """Return a dict of the pairs (place, spot) from which the promise can still be broken."""
    ahead = {}
    waiting = []
    for place, read, later in ground.links:
        for spot in ground.numbers[place]:
            for other, _, breaks in ways.ways_from(place, read, spot):
                ahead.setdefault((later, other), []).append((place, spot))
                if breaks:
                    waiting.append((place, spot))
    risky = {}
    while waiting:
        pair = waiting.pop()
        if pair not in risky:
            risky[pair] = True
            waiting.extend(ahead.get(pair, []))
    return risky
