"""Trees: their nodes, their places, and trees with one node changed."""

from laidforall.errors import NoPlace


def _nodes_from(node, place):
    """Yield the pairs (place, node) of a node at a place and of all below it."""
    yield place, node
    if not isinstance(node, str):
        for index, child in enumerate(node[2]):
            below = place + (index,)
            yield from _nodes_from(child, below)


def all_nodes(tree):
    """Yield the pairs (place, node) of all nodes, in reading order."""
    yield from _nodes_from(tree, ())


def all_places(tree):
    """Yield the places of the elements, in reading order."""
    for place, node in all_nodes(tree):
        if not isinstance(node, str):
            yield place


def all_texts(tree):
    """Yield the pairs (place, text) of the texts, in reading order."""
    for place, node in all_nodes(tree):
        if isinstance(node, str):
            yield place, node


def node_at(tree, place):
    """Return the node at a place; raise NoPlace if there is none."""
    node = tree
    for index in place:
        if isinstance(node, str) or not 0 <= index < len(node[2]):
            raise NoPlace(place)
        node = node[2][index]
    return node


def element_at(tree, place):
    """Return the element at a place; raise NoPlace if none stands there."""
    node = node_at(tree, place)
    if isinstance(node, str):
        raise NoPlace(place)
    return node


def elder_of(tree, place):
    """Return the place of the elder sibling of the element at a place, or None."""
    element_at(tree, place)
    if place == ():
        return None
    above = place[:-1]
    siblings = node_at(tree, above)[2]
    for index in range(place[-1] - 1, -1, -1):
        if not isinstance(siblings[index], str):
            return above + (index,)
    return None


def with_mark(tree, place, mark):
    """Return the tree in which the element at a place has this mark."""
    kind, _, children = element_at(tree, place)
    return with_node(tree, place, (kind, mark, children))


def with_node(tree, place, node):
    """Return the tree with this node in the place of the one there."""
    node_at(tree, place)
    built = node
    for depth in range(len(place) - 1, -1, -1):
        kind, mark, children = node_at(tree, place[:depth])
        index = place[depth]
        built = (kind, mark, children[:index] + (built,) + children[index + 1:])
    return built
