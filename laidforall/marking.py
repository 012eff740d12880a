"""Written forms of trees.

A written form is read in two walks, so that a text of any length and depth
can be refused: first it is cut into parts, then the tree is built from them.
A part is a pair (kind, mark) where an element begins, None where one ends,
and a string for a text.
"""

from laidforall.errors import BadMarks, TooLarge
from laidforall.names import is_sign, name_end

MOST_ELEMENTS = 60

DEEPEST = 12


def write_tree(tree):
    """Return the written form of a tree."""
    if isinstance(tree, str):
        return tree
    kind, mark, children = tree
    told = kind
    if mark != "":
        told = f"{kind}.{mark}"
    if not children:
        return f"[{told}]"
    inner = "".join([write_tree(child) for child in children])
    return f"[{told} {inner}]"


def _read_head(text, start):
    """Read the kind and the mark from start on; return (kind, mark, end)."""
    end = name_end(text, start)
    if end == start:
        raise BadMarks(end)
    kind = text[start:end]
    if text[end:end + 1] != ".":
        return kind, "", end
    begun = end + 1
    end = name_end(text, begun)
    if end == begun:
        raise BadMarks(end)
    return kind, text[begun:end], end


def _inner_start(text, at):
    """Return where the children, or else the bracket, behind a head begin."""
    if text[at:at + 1] == "]":
        return at
    if text[at:at + 1] != " ":
        raise BadMarks(at)
    # A space promises children, so the bracket may not come at once.
    if text[at + 1:at + 2] == "]":
        raise BadMarks(at + 1)
    return at + 1


def _text_end(text, start):
    """Return where the text that begins at start ends."""
    end = start
    while is_sign(text[end:end + 1]):
        end += 1
    if end == start:
        raise BadMarks(start)
    return end


def _parts_of(text):
    """Return the parts of a written form; raise BadMarks if it is none."""
    parts = []
    at = 0
    depth = 0
    while depth > 0 or at == 0:
        char = text[at:at + 1]
        if char == "[":
            kind, mark, end = _read_head(text, at + 1)
            parts.append((kind, mark))
            depth += 1
            at = _inner_start(text, end)
        elif depth == 0:
            raise BadMarks(at)
        elif char == "]":
            parts.append(None)
            depth -= 1
            at += 1
        else:
            end = _text_end(text, at)
            parts.append(text[at:end])
            at = end
    if at < len(text):
        raise BadMarks(at)
    return parts


def _check_size(parts):
    """Raise TooLarge if the tree of the parts has too many or too deep nodes."""
    many = 0
    depth = 0
    deepest = 0
    for part in parts:
        if part is None:
            depth -= 1
        else:
            # With depth elements open, a node has that many indexes.
            deepest = max(deepest, depth)
            if not isinstance(part, str):
                many += 1
                depth += 1
    if many > MOST_ELEMENTS or deepest > DEEPEST:
        raise TooLarge(many)


def _build(parts):
    """Return the tree of the parts."""
    heads = []
    inner = [[]]
    for part in parts:
        if part is None:
            kind, mark = heads.pop()
            children = tuple(inner.pop())
            inner[-1].append((kind, mark, children))
        elif isinstance(part, str):
            inner[-1].append(part)
        else:
            heads.append(part)
            inner.append([])
    return inner[0][0]


def read_tree(text):
    """Return the tree with this written form; raise BadMarks, then TooLarge."""
    parts = _parts_of(text)
    _check_size(parts)
    return _build(parts)
