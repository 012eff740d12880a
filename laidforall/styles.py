"""Styles: the values of the six properties at an element, and their reasons."""

from laidforall.trees import all_places, element_at

PROPERTIES = ("face", "size", "wide", "drop", "indent", "before")

DEFAULTS = (0, 1, 0, 0, 0, 0)

HANDED_DOWN = ("face", "size", "wide")

COUNTING_ROLES = {
    "face": ("block", "head", "span", "note", "figure", "ref"),
    "size": ("block", "head", "span", "note", "figure", "ref"),
    "wide": ("block", "head", "span", "note", "figure", "ref"),
    "drop": ("span", "note", "figure", "ref"),
    "indent": ("block", "head"),
    "before": ("block", "head"),
}


def counts(name, role):
    """Tell whether a property counts for a role."""
    return role in COUNTING_ROLES[name]


def default_of(name):
    """Return the default of a property."""
    return DEFAULTS[PROPERTIES.index(name)]


def _winner(sheet, tree, place, name):
    """Return the index of the row that wins a property at a place, or None."""
    best = None
    for index in sheet.bids(tree, place, name):
        if best is None or sheet.rank(best) < sheet.rank(index):
            best = index
    return best


def _entry(sheet, tree, place, name, above):
    """Return (value, reason) of a property; above is what the parent has, or None."""
    index = _winner(sheet, tree, place, name)
    if index is not None:
        return sheet.row(index)[2], ("row", index)
    if above is not None and name in HANDED_DOWN:
        return above[name][0], ("parent",)
    return default_of(name), ("default",)


def _entries(sheet, tree, place, above):
    """Return the dict of the entries at a place; above is that of the parent, or None."""
    return {name: _entry(sheet, tree, place, name, above) for name in PROPERTIES}


def style_of(sheet, tree, place):
    """Return the style of the element at a place."""
    element_at(tree, place)
    held = None
    for depth in range(len(place) + 1):
        held = _entries(sheet, tree, place[:depth], held)
    return tuple([held[name][0] for name in PROPERTIES])


def reason_table(sheet, tree):
    """Return the right reason table of a tree."""
    table = {}
    for place in all_places(tree):
        above = None if place == () else table[place[:-1]]
        table[place] = _entries(sheet, tree, place, above)
    return table


def accepts_reasons(sheet, tree, table):
    """Tell whether a reason table is the right one."""
    places = list(all_places(tree))
    if len(table) != len(places):
        return False
    for place in places:
        if place not in table:
            return False
        # Parents come first in reading order, so this entry has been accepted.
        above = None if place == () else table[place[:-1]]
        if table[place] != _entries(sheet, tree, place, above):
            return False
    return True
