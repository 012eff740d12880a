"""Page numbers: which numbers of ref elements come true."""

from laidforall.errors import TooLarge
from laidforall.numbering import Best
from laidforall.passages import Composition, all_styles, sign_width
from laidforall.placing import columns_of, page_of
from laidforall.scripts import ref_places
from laidforall.trees import node_at

MOST_REFERRING = 2


def number_places(grammar, tree):
    """Return the list of the places of the elements with the role ref, in reading order."""
    return ref_places(grammar, tree)


def _targets(setting, tree, composition):
    """Return, for each ref element, the index of the block that it refers to, or None."""
    marks = [node_at(tree, passage.script.place)[1] for passage in composition.passages]
    targets = []
    for place in ref_places(setting.grammar, tree):
        mark = node_at(tree, place)[1]
        targets.append(marks.index(mark) if mark != "" and mark in marks else None)
    return targets


def _first_pages(setting, composition):
    """Return the list of the pages on which the first lines of the blocks stand."""
    laying = Best(composition.galley, setting.book).nth()
    pages = []
    for index, column in enumerate(columns_of(composition, laying)):
        for _, start, _ in column.lines:
            if composition.galley.block_at(start)[1] == start:
                pages.append(page_of(setting.book, index))
    return pages


def true_numbers(setting, tree, numbers):
    """Return the tuple of the true numbers of a tree that is placed with some numbers."""
    composition = Composition(setting, tree, numbers)
    pages = _first_pages(setting, composition)
    targets = _targets(setting, tree, composition)
    return tuple([0 if target is None else pages[target] for target in targets])


def _latest_page(setting, composition, target):
    """Return a page that the first line of a block cannot stand behind."""
    ahead = [len(passage.script.cuts) for passage in composition.passages[:target]]
    return page_of(setting.book, sum(ahead))


def _width_of(setting, style, number):
    """Return the width of a number in a style."""
    return sum([sign_width(setting.faces, style, digit) for digit in str(number)])


def _telling_numbers(setting, style, most):
    """Return the least number from 1 up to a greatest one of each width."""
    found = {}
    for number in range(1, most + 1):
        found.setdefault(_width_of(setting, style, number), number)
    return list(found.values())


def settled(setting, tree):
    """Return the list of all lists of numbers that come true, as tuples in order."""
    composition = Composition(setting, tree, ())
    targets = _targets(setting, tree, composition)
    referring = [target for target in targets if target is not None]
    if len(referring) > MOST_REFERRING:
        raise TooLarge(len(referring))
    styles = all_styles(setting.sheet, tree)
    own = [styles[place] for place in ref_places(setting.grammar, tree)]
    tried = [()]
    for style, target in zip(own, targets):
        numbers = [0]
        if target is not None:
            numbers = _telling_numbers(setting, style, _latest_page(setting, composition, target))
        tried = [some + (number,) for some in tried for number in numbers]
    found = []
    for numbers in tried:
        # Numbers of the same widths make the same galley, so they have the same true numbers.
        told = true_numbers(setting, tree, numbers)
        if _widths(setting, own, told) == _widths(setting, own, numbers):
            found.append(told)
    return sorted(found)


def _widths(setting, styles, numbers):
    """Return the list of the widths of some numbers in their styles."""
    return [_width_of(setting, style, number) for style, number in zip(styles, numbers)]
