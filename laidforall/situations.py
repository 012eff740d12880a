"""Questions about a sheet, or two, and all trees of a grammar."""

from laidforall.errors import TooLarge, Unknown
from laidforall.questions import PartQuestion, StyleQuestion, WinQuestion, rows_for
from laidforall.styles import PROPERTIES
from laidforall.trees import all_places
from laidforall.walking import Walk

MOST_TRIED_ROWS = 6


def possible_styles(sheet, grammar, kind):
    """Return the list of the styles that are possible for a kind, in order."""
    if kind not in grammar:
        raise Unknown(kind)
    walk = Walk(grammar, StyleQuestion(sheet, grammar, kind))
    walk.look()
    return sorted(walk.found)


def tree_with_style(sheet, grammar, kind, style):
    """Return (tree, place) of an element of a kind with a style, or None."""
    if kind not in grammar:
        raise Unknown(kind)
    return _example(grammar, StyleQuestion(sheet, grammar, kind), style)


def tree_won(sheet, grammar, index):
    """Return (tree, place) of an element at which a row wins, or None.

    Raise NoSuchNumber, as the sheet does, if there is no such row.
    """
    return _example(grammar, WinQuestion(sheet, grammar, index), True)


def idle_rows(sheet, grammar):
    """Return the list of the indexes of the rows that win nowhere."""
    return [index for index in range(len(sheet)) if tree_won(sheet, grammar, index) is None]


def first_parting(first, second, grammar):
    """Return (tree, place, property) where two sheets part, or None if they are alike."""
    best = None
    fewest = 0
    for name in PROPERTIES:
        found = _parting(first, second, grammar, name)
        if found is not None:
            tree, place = found
            many = len(list(all_places(tree)))
            # An earlier property stays: it may differ at the same element.
            if best is None or many < fewest:
                best = (tree, place, name)
                fewest = many
    return best


def needless_rows(sheet, grammar):
    """Return the list of the indexes of the needless rows."""
    found = []
    for index in range(len(sheet)):
        name = sheet.row(index)[1]
        if _parting(sheet, sheet.without([index]), grammar, name) is None:
            found.append(index)
    return found


def least_rows(sheet, grammar):
    """Return the least rows, a tuple of indexes."""
    if len(sheet) > MOST_TRIED_ROWS:
        raise TooLarge(len(sheet))
    least = []
    for name in PROPERTIES:
        least.extend(_least_rows_for(sheet, grammar, name))
    return tuple(sorted(least))


def _least_rows_for(sheet, grammar, name):
    """Return the least rows for one property, which no other rows concern."""
    own = rows_for(sheet, name)
    for kept in _selections(sorted(own)):
        others = [index for index in own if index not in kept]
        if _parting(sheet, sheet.without(others), grammar, name) is None:
            return kept
    return own


def _selections(indexes):
    """Return the tuples of some of the indexes, the shortest first, then in order."""
    found = [()]
    for index in indexes:
        found = found + [some + (index,) for some in found]
    return [pair[1] for pair in sorted([(len(some), some) for some in found])]


def _example(grammar, question, answer):
    """Return (tree, place) of an element that gives this answer, or None."""
    walk = Walk(grammar, question)
    walk.look(answer)
    if answer not in walk.found:
        return None
    return walk.shown_by(answer)


def _parting(first, second, grammar, name):
    """Return (tree, place) where two sheets part in a property, or None."""
    if _told_rows(first, name) == _told_rows(second, name):
        return None
    return _example(grammar, PartQuestion(first, second, grammar, name), True)


def _told_rows(sheet, name):
    """Return the written rows for a property, from the greatest rank on."""
    return [sheet[index] for index in rows_for(sheet, name)]
