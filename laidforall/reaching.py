"""Beginnings of patterns, as far as all trees of a grammar can reach them.

A beginning is the tests of a pattern up to one of them, with the links
between them; patterns that begin alike share it. Beginnings are numbered,
and a mask has the bit 1 << number for each one that it holds. An element
matches a beginning if the tests can be given as in a pattern. Whether it does
hangs on its own kind and mark and on whether the beginning that is one test
shorter was matched where the last link leads to.
"""

from laidforall.patterns import ANY_KIND, LINKS, passes


def kinds_below(grammar):
    """Return a dict from each kind to the list of the kinds that may stand below it."""
    return {kind: _reached_from(grammar, kind) for kind in grammar}


def _reached_from(grammar, start):
    """Return the list of the kinds that may stand below a kind."""
    known = list(grammar[start][1])
    at = 0
    while at < len(known):
        inner = grammar[known[at]][1]
        known = known + [kind for kind in inner if kind not in known]
        at += 1
    return known


class Reaching:
    """The beginnings of some patterns.

    The attribute tests holds the last test of each beginning; after holds, for
    each link, the mask of the beginnings that are longer than it by this link
    and a test; firsts is the mask of those of one test.
    """

    def __init__(self):
        self.tests = []
        self.after = {link: [] for link in LINKS}
        self.firsts = 0
        self._numbers = {}

    def bits_of(self, pattern):
        """Return the bits of all beginnings of a pattern, the whole one last; new ones are added."""
        return [1 << number for number in self._beginnings(pattern)]

    def _beginnings(self, pattern):
        """Return the numbers of the beginnings of a pattern, the shortest first."""
        found = []
        number = -1
        for at, test in enumerate(pattern.tests):
            link = "" if at == 0 else pattern.links[at - 1]
            key = (number, link, test)
            if key not in self._numbers:
                self._numbers[key] = self._added_test(number, link, test)
            number = self._numbers[key]
            found.append(number)
        return found

    def _added_test(self, before, link, test):
        """Add the beginning with one test behind another one, or -1; return its number."""
        number = len(self.tests)
        self.tests.append(test)
        for other in LINKS:
            self.after[other].append(0)
        if before < 0:
            self.firsts |= 1 << number
        else:
            self.after[link][before] |= 1 << number
        return number

    def leads(self, link, matched):
        """Return the mask of the beginnings that some matched ones allow by a link."""
        mask = 0
        for number, longer in enumerate(self.after[link]):
            if matched >> number & 1:
                mask |= longer
        return mask

    def letters(self, kind):
        """Return the pairs (mark, mask of the passed tests) for a kind.

        Of several marks that pass the same tests only one is told, if possible
        the empty one.
        """
        found = {}
        for mark in [""] + [test[1] for test in self.tests]:
            mask = self.passing(kind, mark)
            if mask not in found:
                found[mask] = mark
        return [(found[mask], mask) for mask in found]

    def passing(self, kind, mark):
        """Return the mask of the beginnings whose last test an element of a kind and mark passes."""
        mask = 0
        for number, test in enumerate(self.tests):
            if passes(test, kind, mark):
                mask |= 1 << number
        return mask


class Prospects:
    """Which beginnings can still grow to a whole pattern that matters.

    The attribute among holds, for each kind, the mask of the beginnings for
    which it matters whether a child of an element of this kind matches them;
    below holds the same for all elements below it. The argument ends holds,
    for each kind, the mask of the whole patterns that matter at its elements.
    """

    def __init__(self, grammar, reaching, ends):
        self.among = {kind: 0 for kind in grammar}
        self.below = {kind: 0 for kind in grammar}
        self._kinds_below = kinds_below(grammar)
        self._reaching = reaching
        self._ends = ends
        # A longer beginning has a greater number, so it is judged before.
        for number in range(len(reaching.tests) - 1, -1, -1):
            self._judge(grammar, number)

    def _judge(self, grammar, number):
        """Find the kinds for which the beginning with this number matters."""
        bit = 1 << number
        for parent in grammar:
            for kind in grammar[parent][1]:
                if self._matters(number, kind, parent):
                    self.among[parent] |= bit
        for parent in grammar:
            for kind in [parent] + self._kinds_below[parent]:
                if self.among[kind] & bit:
                    self.below[parent] |= bit

    def _matters(self, number, kind, parent):
        """Tell whether a match matters at an element of a kind, below a parent."""
        if self._reaching.tests[number][0] not in (ANY_KIND, kind):
            return False
        inside, child, behind = [self._reaching.after[link][number] for link in LINKS]
        later = (inside & self.below[kind]) | (child & self.among[kind])
        later |= behind & self.among[parent]
        return later != 0 or self._ends[kind] >> number & 1 == 1
