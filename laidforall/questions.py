"""The questions about all trees for which a walk is made (see walking.py).

A question is cut into goals. A goal chooses, for some properties of one or
two sheets, how each comes to its value: by which row, or by the default. The
rows that are not chosen can only stand in the way, wherever they would give
another value. So of two trees that have come equally far for the chosen rows,
the one in which less of the others has been reached is at least as good, and
the walk can leave out the other one.
"""

from laidforall.patterns import ANY_KIND
from laidforall.reaching import Reaching
from laidforall.styles import HANDED_DOWN, PROPERTIES, counts, default_of


def rows_for(sheet, name):
    """Return the indexes of the rows for a property, from the greatest rank on."""
    ranks = []
    for index in range(len(sheet)):
        if sheet.row(index)[1] == name:
            ranks.append(sheet.rank(index).parts)
    return [parts[3] for parts in sorted(ranks, reverse=True)]


class Choice:
    """How a property comes to a value: by a row, or by the default if good is None.

    The pattern good is that of the row. The patterns strong are those of rows
    that must not match where it does, the patterns other those of all rows
    that would give another value. If the value is handed down, it may have
    been given further up.
    """

    def __init__(self, value, good, strong, other, is_handed):
        self.value = value
        self.good = good
        self.strong = strong
        self.other = other
        self.is_handed = is_handed

    def excludes(self, later):
        """Tell whether the row of another choice cannot match below where this one was made."""
        return later.good is not None and later.good in self.other

    def excludes_beside(self, beside):
        """Tell whether the row of another choice cannot match where this one is made."""
        if self.good is None:
            return self.excludes(beside)
        return beside.good is not None and beside.good in self.strong


def choices_for(sheet, name):
    """Return the choices for a property of a sheet, the default last."""
    rows = [sheet.row(index) for index in rows_for(sheet, name)]
    is_handed = name in HANDED_DOWN
    found = []
    for at, row in enumerate(rows):
        strong = [other[0] for other in rows[:at] if other[2] != row[2]]
        others = [other[0] for other in rows if other[2] != row[2]]
        found.append(Choice(row[2], row[0], strong, others if is_handed else [], is_handed))
    default = default_of(name)
    others = [other[0] for other in rows if other[2] != default]
    found.append(Choice(default, None, [], others, is_handed))
    return found


def _can_meet(one, other):
    """Tell whether two choices can hold together, as far as their patterns tell."""
    if not one.excludes_beside(other) and not other.excludes_beside(one):
        return True
    if not one.is_handed:
        return False
    # A default is chosen above all rows.
    if one.good is None or other.good is None:
        return False
    return not one.excludes(other) or not other.excludes(one)


def _chain_mask(reaching, patterns):
    """Return (mask of some whole patterns, mask of all their beginnings)."""
    whole = 0
    chain = 0
    for pattern in patterns:
        bits = reaching.bits_of(pattern)
        whole |= bits[-1]
        for bit in bits:
            chain |= bit
    return whole, chain


def _left_marks(reaching, patterns):
    """Return what each beginning of some patterns leaves to be passed, itself counted.

    The list has triples (mask of the beginning, marks of the tests that are
    left, marks without that of the last test), the shortest beginning first.
    """
    found = []
    for pattern in patterns:
        marks = [mark for _, mark in pattern.tests]
        for at, bit in enumerate(reaching.bits_of(pattern)):
            found.append((bit, marks[at:], marks[at:-1]))
    return found


def _many_with_marks(lists):
    """Return how many elements are needed at least to have the marks of each of some lists."""
    wanted = {}
    for marks in lists:
        for mark in marks:
            if mark != "":
                wanted[mark] = max(wanted.get(mark, 0), marks.count(mark))
    # Elements with different marks are different ones.
    return sum(list(wanted.values()))


class Goal:
    """An element of a wanted kind at which some choices hold together.

    There may be outer choices besides: they hold at the container around the
    element, the only element of one of the kinds of containers there. Within
    the container, only elements of wanted kinds stand.

    The attributes helpful and harmful are the masks of the beginnings that
    the chosen rows need, and of those that stand in their way; above has a bit
    for each choice that holds already at the root.
    """

    def __init__(self, grammar, choices, wanted, outer=(), containers=()):
        self.reaching = Reaching()
        self.wanted = wanted
        self.helpful = 0
        self.harmful = 0
        self.above = 0
        self._containers = containers
        self._needed = 0
        self._parts = []
        self._chains = []
        self.ends = {kind: 0 for kind in grammar}
        for choice in choices:
            self._add_choice(choice, False, wanted)
        for choice in outer:
            self._add_choice(choice, True, containers)
        # The bit that tells that a container has been entered.
        self._inside = 1 << len(self._parts) if containers else 0
        self._every = (1 << len(self._parts)) - 1 | self._inside
        self._outer = self._every & ~((1 << len(choices)) - 1)

    def _add_choice(self, choice, is_outer, places):
        """Note the masks of a choice that is to hold at an element of one of these kinds."""
        bit = 1 << len(self._parts)
        chosen = [] if choice.good is None else [choice.good]
        good, helpful = _chain_mask(self.reaching, chosen)
        self._chains.append((bit, _left_marks(self.reaching, chosen)))
        strong, harmful = _chain_mask(self.reaching, choice.strong)
        other, harmful_below = _chain_mask(self.reaching, choice.other)
        self.helpful |= helpful
        self.harmful |= harmful | harmful_below
        if choice.good is None:
            self.above |= bit
        if not choice.is_handed and not is_outer:
            self._needed |= good
        self._parts.append((bit, good, strong, other, choice.is_handed, is_outer))
        for kind in list(self.ends):
            if kind in places or choice.is_handed and not (is_outer and kind in self.wanted):
                self.ends[kind] |= good | strong | other

    def _held(self, kind, matched, above):
        """Return the mask of the choices that hold at an element."""
        held = above & self._inside
        for bit, good, strong, other, _, is_outer in self._parts:
            if is_outer and kind in self.wanted:
                held |= above & bit
            elif matched & good and not matched & strong:
                held |= bit
            elif not matched & other:
                held |= above & bit
        return held

    def handed(self, kind, matched, above):
        """Return the mask of the choices that hold for a child as far as it changes nothing."""
        held = self._held(kind, matched, above)
        is_within = kind in self._containers or kind in self.wanted
        for bit, _, _, _, is_handed, is_outer in self._parts:
            if not is_handed and not (is_outer and is_within):
                held = held & ~bit | self.above & bit
        return held | self._inside if kind in self._containers else held

    def is_open(self, kind, handed):
        """Tell whether the outer choices can still hold below an element that hands something down."""
        if kind in self._containers or kind in self.wanted:
            return handed & self._outer == self._outer
        return True

    def is_shown(self, kind, matched, above):
        """Tell whether all choices hold at an element of a wanted kind."""
        return kind in self.wanted and self._held(kind, matched, above) == self._every

    def least_left(self, allowed, above):
        """Return how many elements are needed at least where some beginnings are allowed."""
        whole = []
        inner = []
        for bit, chain in self._chains:
            left = [entry for entry in chain if allowed & entry[0]]
            if left and not above & bit:
                whole.append(left[-1][1])
                inner.append(left[-1][2])
        # The last element passes at most the last test of each chosen row.
        most = max([len(marks) for marks in whole], default=1)
        return max(most, _many_with_marks(whole), 1 + _many_with_marks(inner))

    def can_be_shown(self):
        """Tell whether some element can pass the last tests that it must pass."""
        for kind in self.wanted:
            for _, passed in self.reaching.letters(kind):
                if passed & self._needed == self._needed:
                    return True
        return False


def style_goal(grammar, kind, choices):
    """Return the goal of an element of a kind with some choices."""
    return Goal(grammar, choices, [kind])


def win_goal(sheet, grammar, index):
    """Return the goal of an element at which a row wins."""
    row = sheet.row(index)
    indexes = rows_for(sheet, row[1])
    stronger = [sheet.row(other)[0] for other in indexes[:indexes.index(index)]]
    named = row[0].tests[-1][0]
    wanted = [kind for kind in grammar if named in (ANY_KIND, kind)]
    return Goal(grammar, [Choice(row[2], row[0], stronger, [], False)], wanted)


def parting_goals(first, second, grammar, name):
    """Return the list of the goals of an element at which two sheets part in a property."""
    wanted = [kind for kind in grammar if counts(name, grammar[kind][0])]
    found = []
    for one in choices_for(first, name):
        for other in choices_for(second, name):
            if one.value != other.value and _can_meet(one, other):
                found.append(Goal(grammar, [one, other], wanted))
    return found


def style_choices(sheet):
    """Return the list of the choices for each property, in the order of the properties."""
    return [choices_for(sheet, name) for name in PROPERTIES]
