"""The ways in which the children of the root of a range can occur.

A way is a pair (pair, matched): the index of a pair (kind, mark), and the mask
of the beginnings of patterns (see reaching.py) that an element of this kind
and mark matches behind its elder siblings. Its style, and what it leads to in
younger siblings, hang on the way alone.
"""

from laidforall.faces import BLANK
from laidforall.passages import HYPHEN, sign_width
from laidforall.patterns import BEHIND, CHILD, INSIDE
from laidforall.reaching import Reaching
from laidforall.styles import style_of

HEAD = "head"


class Siblings:
    """The ways for a setting and some pairs.

    The attribute spots lists all of them, those of first children first; starts
    lists the numbers of the ways of first children, and later lists, for each
    way, the numbers of those right behind it, both by the pairs in order. The
    attribute lines lists, for each way, the indexes of the pairs that lead to it.
    """

    def __init__(self, setting, pairs):
        self._pairs = pairs
        self._root = setting.grammar.root
        self._reaching = Reaching()
        for index in range(len(setting.sheet)):
            self._reaching.bits_of(setting.sheet.row(index)[0])
        matched = self._reaching.firsts & self._reaching.passing(self._root, "")
        around = self._reaching.leads(INSIDE, matched) | self._reaching.leads(CHILD, matched)
        self._around = self._reaching.firsts | around
        self._numbers = {}
        self.spots = []
        self.lines = []
        self.later = []
        self.starts = self._met_behind(0, ())
        while len(self.later) < len(self.spots):
            number = len(self.later)
            self.later.append(self._met_behind(self.spots[number][1], self.lines[number]))

    def _met_behind(self, matched, line):
        """Return the numbers of the ways behind an element that matches a mask (0: behind none)."""
        allowed = self._around | self._reaching.leads(BEHIND, matched)
        numbers = []
        for index, (kind, mark) in enumerate(self._pairs):
            way = (index, allowed & self._reaching.passing(kind, mark))
            if way not in self._numbers:
                self._numbers[way] = len(self.spots)
                self.spots.append(way)
                self.lines.append(line + (index,))
            numbers.append(self._numbers[way])
        return numbers

    def style(self, sheet, number):
        """Return the style of an element that occurs in the way with a number."""
        children = tuple([self._pairs[index] + ((),) for index in self.lines[number]])
        return style_of(sheet, (self._root, "", children), (len(children) - 1,))

    def merged(self, marks):
        """Return the list of the classes of the ways: those of a class lead to the same.

        The argument marks tells by what single ways differ. The classes are
        numbered in the order of their first ways.
        """
        many = 0
        classes = _numbered(marks)
        while many < max(classes) + 1:
            many = max(classes) + 1
            labels = []
            for number, own in enumerate(classes):
                labels.append((own, tuple([classes[other] for other in self.later[number]])))
            classes = _numbered(labels)
        return classes


def _numbered(labels):
    """Return the list of the numbers of some labels; equal ones have the same number."""
    numbers = {}
    for label in labels:
        if label not in numbers:
            numbers[label] = len(numbers)
    return [numbers[label] for label in labels]


def case_of(setting, role, style, tokens):
    """Return the case of a family for block elements of a role and a style with some tokens."""
    face, size, wide, _, indent, before = style
    told = setting.faces[face]
    joints = setting.joints
    shapes = []
    for token in tokens:
        shapes.append(tuple([told(syllable, size, wide) for syllable in joints(token)]))
    blank = sign_width(setting.faces, style, BLANK)
    hyphen = sign_width(setting.faces, style, HYPHEN)
    return size * told.height, indent, before, role == HEAD, blank, hyphen, tuple(shapes)
