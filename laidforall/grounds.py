"""All spots that the tellings of a family can come to (see presses.py)."""

from laidforall.presses import AHEAD, CLOSES

# The place of the spot ahead of a telling.
OUTSIDE = ""


def is_end(place):
    """Tell whether a place is the end of a block."""
    return isinstance(place, tuple)


class Ground:
    """All spots of a press, by their places, and all reads that lead from place to place.

    The place of an open line is the case of its block, that of the end of a
    block is as Press.end_of tells. The attribute numbers holds, for each
    place, a dict from its spots to their numbers; links lists the triples
    (place, read, later place).
    """

    def __init__(self, press):
        self.press = press
        self.numbers = {}
        self.links = []
        self._linked = {}
        self._waiting = []
        self._meet(OUTSIDE, AHEAD)
        while self._waiting:
            place, spot = self._waiting.pop()
            for read, later in self.reads_from(place):
                for entry in press.ways(read, spot):
                    self._meet(later, entry[0])

    def _meet(self, place, spot):
        """Note that a spot can be come to."""
        if place not in self.numbers:
            self.numbers[place] = {}
            self._linked[place] = self._links_from(place)
            self.links.extend(self._linked[place])
        if spot not in self.numbers[place]:
            self.numbers[place][spot] = len(self.numbers[place])
            self._waiting.append((place, spot))

    def _links_from(self, place):
        """Return the links from a place."""
        press = self.press
        if place == OUTSIDE:
            return [(place, read, read[2]) for read in press.start_reads()]
        if is_end(place):
            return [(place, read, read[2]) for read in press.block_reads(place)]
        inner = [(place, read, place) for read in press.inner_reads(place)]
        return [(place, CLOSES, press.end_of(place))] + inner

    def reads_from(self, place):
        """Return the list of the pairs (read, later place) of what may follow at a place."""
        return [(read, later) for _, read, later in self._linked[place]]

    def numbered_links(self):
        """Return the list of (place, later place, ways) for all links.

        The ways hold, for each spot by its number, a list of the pairs of the
        number of a later spot and the cost to come to it.
        """
        found = []
        for place, read, later in self.links:
            behind = self.numbers[later]
            ways = []
            for spot in self.numbers[place]:
                told = self.press.ways(read, spot)
                ways.append([(behind[entry[0]], entry[1]) for entry in told])
            found.append((place, later, ways))
        return found
