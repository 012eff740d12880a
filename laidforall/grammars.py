"""Grammars: which element may contain which."""

from laidforall.errors import Misfit, Strange, Taken, Unknown
from laidforall.trees import all_nodes, node_at

INNER_ROLES = {
    "root": ("block", "head"),
    "block": ("span", "note", "figure", "ref"),
    "head": ("span", "ref"),
    "span": ("span", "ref"),
    "note": ("span",),
    "figure": ("span",),
    "ref": (),
}

TEXT_ROLES = ("block", "head", "span", "note", "figure")

USUAL_ROWS = (
    ("doc", "root", ("head", "par")),
    ("head", "head", ("em", "see")),
    ("par", "block", ("em", "note", "fig", "see")),
    ("em", "span", ("em", "see")),
    ("note", "note", ("em",)),
    ("fig", "figure", ("em",)),
    ("see", "ref", ()),
)


def _check_inner(rows):
    """Raise Unknown or Misfit for the first inner kind that may not stand."""
    for role, inner in rows.values():
        for kind in inner:
            if kind not in rows:
                raise Unknown(kind)
            if rows[kind][0] not in INNER_ROLES[role]:
                raise Misfit(kind)


class Grammar:
    """A root kind and grammar rows (kind, role, inner)."""

    def __init__(self, root, rows):
        told = {}
        for kind, role, inner in rows:
            if kind in told:
                raise Taken(kind)
            told[kind] = (role, tuple(inner))
        if root not in told:
            raise Unknown(root)
        if told[root][0] != "root":
            raise Misfit(root)
        _check_inner(told)
        self.root = root
        self._rows = told

    @staticmethod
    def usual():
        """Return the usual grammar."""
        return Grammar("doc", list(USUAL_ROWS))

    def __getitem__(self, kind):
        """Return the pair (role, inner) of a kind."""
        if kind not in self._rows:
            raise Unknown(kind)
        return self._rows[kind]

    def __contains__(self, kind):
        return kind in self._rows

    def __len__(self):
        return len(self._rows)

    def __iter__(self):
        return iter(self._rows)

    def check(self, tree):
        """Raise Strange with the first place of a node that may not stand there."""
        for place, node in all_nodes(tree):
            if not self._may_stand(tree, place, node):
                raise Strange(place)

    def _may_stand(self, tree, place, node):
        """Tell whether a node may stand where it stands, if its parent may."""
        if place == ():
            return node[0] == self.root
        above = node_at(tree, place[:-1])
        role, inner = self._rows[above[0]]
        if isinstance(node, str):
            return role in TEXT_ROLES
        return node[0] in inner

    def every_tree(self, many, marks):
        """Yield all trees of exactly many elements, without texts, in order."""
        ordered = sorted(marks)
        below = many - 1
        for mark in ordered:
            for children in _full_forests(self, self.root, below, ordered):
                yield (self.root, mark, children)


def _full_forests(grammar, parent, many, marks):
    """Yield the tuples of children of a parent with exactly many elements, in order."""
    if many == 0:
        yield ()
    else:
        for child, size in _small_trees(grammar, parent, many, marks):
            left = many - size
            for others in _full_forests(grammar, parent, left, marks):
                yield (child,) + others


def _small_trees(grammar, parent, most, marks):
    """Yield (child, size) for the children with at most this size, in order."""
    if most > 0:
        below = most - 1
        for kind in sorted(grammar[parent][1]):
            for mark in marks:
                for children, size in _small_forests(grammar, kind, below, marks):
                    yield (kind, mark, children), size + 1


def _small_forests(grammar, parent, most, marks):
    """Yield (children, size) for the tuples with at most this size, in order."""
    yield (), 0
    for child, size in _small_trees(grammar, parent, most, marks):
        left = most - size
        for others, more in _small_forests(grammar, parent, left, marks):
            yield (child,) + others, size + more
