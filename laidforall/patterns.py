"""Patterns: tests with links between them."""

from laidforall.errors import BadPattern
from laidforall.names import is_name
from laidforall.trees import elder_of, element_at

MOST_TESTS = 4

ANY_KIND = "*"

INSIDE = ""

CHILD = ">"

BEHIND = "+"

LINKS = (INSIDE, CHILD, BEHIND)


def _read_test(word):
    """Return the test (kind, mark) that a word is, or None if it is none."""
    kind, dot, mark = word.partition(".")
    if kind != ANY_KIND and not is_name(kind):
        return None
    if dot != "" and not is_name(mark):
        return None
    return kind, mark


def _read_tests(text):
    """Return (tests, links) of a written pattern, or None if it is none."""
    tests = []
    links = []
    link = INSIDE
    for word in text.split(" "):
        if tests and link == INSIDE and word in (CHILD, BEHIND):
            link = word
        else:
            test = _read_test(word)
            if test is None:
                return None
            if tests:
                links.append(link)
            tests.append(test)
            link = INSIDE
    if link != INSIDE or len(tests) > MOST_TESTS:
        return None
    return tuple(tests), tuple(links)


def passes(test, kind, mark):
    """Tell whether an element of this kind and mark passes a test."""
    return test[0] in (ANY_KIND, kind) and test[1] in ("", mark)


class Pattern:
    """One to four tests, each but the last with a link behind it.

    The attribute tests holds pairs (kind, mark), with "*" for any kind and
    "" if no mark is asked for; the attribute links holds the links.
    """

    def __init__(self, text):
        told = _read_tests(text)
        if told is None:
            raise BadPattern(text)
        self._text = text
        self.tests, self.links = told

    def __call__(self, tree, place):
        """Tell whether the pattern matches the element at a place."""
        element_at(tree, place)
        return self._reaches(tree, place, len(self.tests) - 1)

    def _reaches(self, tree, place, last):
        """Tell whether the tests up to last can be given, the last one to this place."""
        kind, mark, _ = element_at(tree, place)
        if not passes(self.tests[last], kind, mark):
            return False
        if last == 0:
            return True
        for other in _linked_places(tree, place, self.links[last - 1]):
            if self._reaches(tree, other, last - 1):
                return True
        return False

    @property
    def asked(self):
        """The number of tests that ask for a mark."""
        return len([mark for kind, mark in self.tests if mark != ""])

    @property
    def named(self):
        """The number of tests with a kind of their own."""
        return len([kind for kind, mark in self.tests if kind != ANY_KIND])

    def __len__(self):
        return len(self.tests)

    def __str__(self):
        return str(self._text)

    def __eq__(self, other):
        if not isinstance(other, Pattern):
            return NotImplemented
        return self._text == other._text


def _linked_places(tree, place, link):
    """Return the places to which a link may lead back from a place."""
    if link == BEHIND:
        elder = elder_of(tree, place)
        return [] if elder is None else [elder]
    if place == ():
        return []
    if link == CHILD:
        return [place[:-1]]
    return [place[:depth] for depth in range(len(place))]
