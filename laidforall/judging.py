"""Questions about a range, and about all trees of a setting."""

from laidforall.overfilling import container_of, overfull_place
from laidforall.placing import placed_signs
from laidforall.scripts import BLOCK_ROLES, REF, role_at
from laidforall.situations import first_parting
from laidforall.trees import node_at, with_node
from laidforall.verdicts import Broken, judge

# Not a word, so that it has no joints.
TOLD = "AA"


class BrokenTree(Broken):
    """A tree of a range does not keep the promise, and a best laying of it breaks it."""

    def __init__(self, telling, laying, tree):
        self.telling = telling
        self.laying = laying
        self.tree = tree

    def __bool__(self):
        return False


def judge_range(trees, promise):
    """Return the verdict whether all trees of a range keep a promise."""
    verdict = judge(trees.family, trees.setting.book, promise)
    if verdict:
        return verdict
    return BrokenTree(verdict.telling, verdict.laying, trees.tree_of(verdict.telling))


def _with_text(tree, place, text):
    """Return the tree with a text as the last child of an element, which does not end with a text."""
    kind, mark, children = node_at(tree, place)
    return with_node(tree, place, (kind, mark, children + (text,)))


def _with_block_text(grammar, tree, place, text):
    """Return the tree with a text in the block element, if an element is in a note or figure.

    A block element without a text would be left out, and the note or figure too.
    """
    container = container_of(grammar, tree, place)
    if role_at(grammar, tree, container) in BLOCK_ROLES:
        return tree
    return _with_text(tree, container[:-1], text)


def _told_tree(grammar, tree, place):
    """Return a tree with texts in which a sign of the last element, or behind it, tells its style."""
    # The number of a ref element is one sign, so its width is told by the sign behind it.
    owner = place[:-1] if role_at(grammar, tree, place) == REF else place
    return _with_block_text(grammar, _with_text(tree, owner, TOLD), owner, TOLD)


def lay_apart(setting, sheet):
    """Return (tree, origin) of a sign that another sheet places differently, or None."""
    parting = first_parting(setting.sheet, sheet, setting.grammar)
    if parting is None:
        return None
    tree = _told_tree(setting.grammar, parting[0], parting[1])
    other = setting.copy()
    other.sheet = sheet
    return tree, _parted_origin(placed_signs(setting, tree), placed_signs(other, tree))


def _parted_origin(placed, others):
    """Return the origin of the first sign that is not the same in two lists of placed signs."""
    for sign, other in zip(placed, others):
        if sign != other:
            return sign[0]
    return None


def overfull_tree(setting, letters):
    """Return a plain tree over some letters with a line that is always too wide, or None."""
    found = overfull_place(setting, letters)
    if found is None:
        return None
    tree, place, word = found
    return _with_block_text(setting.grammar, _with_text(tree, place, word), place, letters[0])
