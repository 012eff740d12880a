"""Questions about a sheet, or two, and all trees of a grammar."""

from laidforall.errors import TooLarge, Unknown
from laidforall.questions import parting_goals, rows_for, style_choices, style_goal, win_goal
from laidforall.styles import PROPERTIES
from laidforall.trees import all_places
from laidforall.walking import Walk

MOST_TRIED_ROWS = 6


def possible_styles(sheet, grammar, kind):
    """Return the list of the styles that are possible for a kind, in order."""
    if kind not in grammar:
        raise Unknown(kind)
    return sorted(StyleSearch(sheet, grammar, kind).styles)


class StyleSearch:
    """A search for all styles of a kind; the attribute styles has them as keys.

    A pick is a pair (number of a property, number of one of its choices).
    """

    def __init__(self, sheet, grammar, kind):
        self._grammar = grammar
        self._kind = kind
        self._choices = style_choices(sheet)
        self._clashes = []
        self.styles = {}
        self._add([])

    def _add(self, picks):
        """Note the styles of all choices that begin with some picks and can hold together."""
        if not self._can_hold(picks):
            return
        if len(picks) == len(self._choices):
            self.styles[self._values(picks)] = True
            return
        for number in range(len(self._choices[len(picks)])):
            self._add(picks + [(len(picks), number)])

    def _values(self, picks):
        """Return the tuple of the values of some picks."""
        return tuple([self._choices[at][number].value for at, number in picks])

    def _can_hold(self, picks):
        """Tell whether some picks can hold together, if all but the last one can, and tell anything new."""
        if self._values(picks) in self.styles:
            return False
        # A property without rows has one choice, which always holds.
        if picks and len(self._choices[picks[-1][0]]) == 1:
            return True
        for clash in self._clashes:
            if all([pick in picks for pick in clash]):
                return False
        if self._are_shown(picks):
            return True
        self._clashes.append(self._least_clash(picks))
        return False

    def _are_shown(self, picks):
        """Tell whether some picks hold together at an element."""
        chosen = [self._choices[at][number] for at, number in picks]
        return _shown_first(self._grammar, [style_goal(self._grammar, self._kind, chosen)], None) is not None

    def _least_clash(self, picks):
        """Return those of some picks that cannot hold together without the other ones either."""
        clash = picks
        for pick in picks:
            fewer = [other for other in clash if other != pick]
            if not self._are_shown(fewer):
                clash = fewer
        return clash


def tree_with_style(sheet, grammar, kind, style):
    """Return (tree, place) of an element of a kind with a style, or None."""
    if kind not in grammar:
        raise Unknown(kind)
    chosen = [[]]
    for value, choices in zip(style, style_choices(sheet)):
        fitting = [choice for choice in choices if choice.value == value]
        chosen = [some + [choice] for some in chosen for choice in fitting]
    return _shown_first(grammar, [style_goal(grammar, kind, some) for some in chosen], None)


def tree_won(sheet, grammar, index):
    """Return (tree, place) of an element at which a row wins, or None.

    Raise NoSuchNumber, as the sheet does, if there is no such row.
    """
    return _shown_first(grammar, [win_goal(sheet, grammar, index)], None)


def idle_rows(sheet, grammar):
    """Return the list of the indexes of the rows that win nowhere."""
    return [index for index in range(len(sheet)) if tree_won(sheet, grammar, index) is None]


def first_parting(first, second, grammar):
    """Return (tree, place, property) where two sheets part, or None if they are alike."""
    best = None
    most = None
    for name in PROPERTIES:
        found = _parting(first, second, grammar, name, most)
        if found is not None:
            tree, place = found
            best = (tree, place, name)
            # An earlier property stays: it may differ at the same element.
            most = _size_of(tree) - 1
    return best


def needless_rows(sheet, grammar):
    """Return the list of the indexes of the needless rows."""
    found = []
    for index in range(len(sheet)):
        name = sheet.row(index)[1]
        if _parting(sheet, sheet.without([index]), grammar, name, None) is None:
            found.append(index)
    return found


def least_rows(sheet, grammar):
    """Return the least rows, a tuple of indexes."""
    if len(sheet) > MOST_TRIED_ROWS:
        raise TooLarge(len(sheet))
    least = []
    for name in PROPERTIES:
        least.extend(_least_rows_for(sheet, grammar, name))
    return tuple(sorted(least))


def _least_rows_for(sheet, grammar, name):
    """Return the least rows for one property, which no other rows concern."""
    own = rows_for(sheet, name)
    for kept in _selections(sorted(own)):
        others = [index for index in own if index not in kept]
        if _parting(sheet, sheet.without(others), grammar, name, None) is None:
            return kept
    return own


def _selections(indexes):
    """Return the tuples of some of the indexes, the shortest first, then in order."""
    found = [()]
    for index in indexes:
        found = found + [some + (index,) for some in found]
    return [pair[1] for pair in sorted([(len(some), some) for some in found])]


def _size_of(tree):
    """Return the number of elements of a tree."""
    return len(list(all_places(tree)))


def _shown_first(grammar, goals, most):
    """Return (tree, place) for the goal that needs the fewest elements, or None.

    No more elements than most are tried, unless it is None.
    """
    best = None
    for goal in goals:
        if goal.can_be_shown():
            walk = Walk(grammar, goal)
            found = walk.found(most)
            if found is not None:
                best = found
                most = _size_of(found[0]) - 1
    return best


def _parting(first, second, grammar, name, most):
    """Return (tree, place) where two sheets part in a property, with at most so many elements, or None."""
    if _told_rows(first, name) == _told_rows(second, name):
        return None
    return _shown_first(grammar, parting_goals(first, second, grammar, name), most)


def _told_rows(sheet, name):
    """Return the written rows for a property, from the greatest rank on."""
    return [sheet[index] for index in rows_for(sheet, name)]
