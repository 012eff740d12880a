"""Which ways from spot to spot (see presses.py) are ever part of a best laying."""

from laidforall.lags import NO_LAG, lag_tables, reached
from laidforall.margins import margin_tables


class Ways:
    """The ways over all reads of a ground that are of use in some telling."""

    def __init__(self, ground):
        self._press = ground.press
        self._numbers = ground.numbers
        self._lags = lag_tables(ground)
        tables = margin_tables(ground)
        # For each place and lost spot, the margins of all spots that may be held.
        self._margins = {place: list(zip(*table)) for place, table in tables.items()}
        self._table = {}
        for (place, read, later), (_, _, ways) in zip(ground.links, ground.numbered_links()):
            self._fill(place, read, later, ways)

    def _fill(self, place, read, later, numbered):
        """Note those of Press.ways that are of use, from all spots of a place over a read."""
        margins = self._margins[later]
        for spot, number in self._numbers[place].items():
            others = reached(self._lags[place][number], numbered, len(margins))
            found = []
            for way in self._press.ways(read, spot):
                against = margins[self._numbers[later][way[0]]]
                if way[1] <= min([cost + margin for cost, margin in zip(others, against)]):
                    found.append(way)
            self._table[(place, read, spot)] = found

    def ways_from(self, place, read, spot):
        """Return the list of the useful ones of Press.ways from a spot of a place."""
        key = (place, read, spot)
        return self._table[key] if key in self._table else self._press.ways(read, spot)

    def drop_breaking(self, place, read, spot):
        """Leave out the ways that break the promise, as they turned out to be of no use."""
        found = [way for way in self.ways_from(place, read, spot) if not way[2]]
        self._table[(place, read, spot)] = found

    def lagging(self, place, spot):
        """Return the list of (held spot, lag) for all spots that are reached when this one is."""
        lags = self._lags[place][self._numbers[place][spot]]
        return [(held, lag) for held, lag in zip(self._numbers[place], lags) if lag < NO_LAG]

    def useful(self, place, entries, is_covered):
        """Return the entries (spot, cost, ..) of a place without those that others make useless.

        An entry is useless if it is too dear beside another one, or just not
        too dear and is_covered tells that this changes nothing.
        """
        numbers = self._numbers.get(place, {})
        try:
            found = [(numbers[entry[0]], entry[1], entry) for entry in entries]
        except KeyError:
            return entries
        margins = self._margins[place]
        for told in list(found):
            if _is_useless(told, found, margins[told[0]], is_covered):
                found = [other for other in found if other != told]
        return [told[2] for told in found]


def _is_useless(told, others, margins, is_covered):
    """Tell whether an entry is useless beside others, with the margins against it."""
    number, cost, entry = told
    for other_number, other_cost, other in others:
        left = other_cost + margins[other_number] - cost
        if left <= 0 and (left < 0 or other_number != number and is_covered(entry, other)):
            return True
    return False
