"""Slow and plain answers that the tests hold the program against.

Nothing here uses the part of the program that it judges.
"""

import itertools
import re

SIGNS = "".join(chr(code) for code in range(32, 127) if chr(code) not in "%[]\\")

WHOLE_ELEMENT = re.compile(
    r"\[[a-z]{1,8}(?:\.[a-z]{1,8})?(?: [" + re.escape(SIGNS) + "\x00]+)?\\]"
)

PROPERTY_NAMES = ("face", "size", "wide", "drop", "indent", "before")

DEFAULT_VALUES = {"face": 0, "size": 1, "wide": 0, "drop": 0, "indent": 0, "before": 0}

COUNTING = {
    "face": ("block", "head", "span", "note", "figure", "ref"),
    "size": ("block", "head", "span", "note", "figure", "ref"),
    "wide": ("block", "head", "span", "note", "figure", "ref"),
    "drop": ("span", "note", "figure", "ref"),
    "indent": ("block", "head"),
    "before": ("block", "head"),
}

ALLOWED_INSIDE = {
    "root": ("block", "head"),
    "block": ("span", "note", "figure", "ref"),
    "head": ("span", "ref"),
    "span": ("span", "ref"),
    "note": ("span",),
    "figure": ("span",),
    "ref": (),
}


def is_written_form(text):
    """Whole elements are replaced by one character until one is left."""
    if "\x00" in text:
        return False
    while True:
        shorter = WHOLE_ELEMENT.sub("\x00", text)
        if shorter == text:
            return text == "\x00"
        text = shorter


def can_begin(text):
    """Whether some written form begins with the text: try to complete it."""
    for middle in ("", "a", "[a]", "[a", "a]", "]"):
        for many in range(text.count("[") + 2):
            if is_written_form(text + middle + "]" * many):
                return True
    return False


def longest_beginning(text):
    """The length of the longest beginning with which some written form begins."""
    best = 0
    while best < len(text) and can_begin(text[:best + 1]):
        best += 1
    return best


def places_of(tree, place=()):
    """The places of the elements, in reading order."""
    found = [place]
    for index, child in enumerate(tree[2]):
        if not isinstance(child, str):
            found.extend(places_of(child, place + (index,)))
    return found


def nodes_of(node, place=()):
    """The pairs of all places and nodes, in reading order."""
    found = [(place, node)]
    if not isinstance(node, str):
        for index, child in enumerate(node[2]):
            found.extend(nodes_of(child, place + (index,)))
    return found


def node_of(tree, place):
    return dict(nodes_of(tree))[place]


def elder_place(tree, place):
    """The place of the elder sibling, from the list of all places."""
    elders = [other for other in places_of(tree)
              if place and len(other) == len(place)
              and other[:-1] == place[:-1] and other < place]
    return max(elders) if elders else None


def split_pattern(text):
    """The tests and links of a written pattern."""
    words = re.split(r"( > | \+ | )", text)
    tests = [tuple((word + ".").split(".")[:2]) for word in words[0::2]]
    return tests, [link.strip() for link in words[1::2]]


def match(text, tree, place):
    """Try all ways to give the tests to elements that pass them."""
    tests, links = split_pattern(text)
    nodes = dict(nodes_of(tree))
    passing = [
        [at for at, node in nodes.items() if not isinstance(node, str)
         and kind in ("*", node[0]) and mark in ("", node[1])]
        for kind, mark in tests
    ]
    passing[-1] = [at for at in passing[-1] if at == place]
    for given in itertools.product(*passing):
        if all(linked(tree, link, one, two) for link, one, two in zip(links, given, given[1:])):
            return True
    return False


def linked(tree, link, one, two):
    if link == ">":
        return two != () and one == two[:-1]
    if link == "+":
        return two != () and elder_place(tree, two) == one
    return len(one) < len(two) and two[:len(one)] == one


def read_line(line):
    """The pattern, property, value and firmness of a good written row."""
    pattern, rest = line.split(": ")
    words = rest.split(" ")
    return pattern, words[0], int(words[1]), len(words) == 3


def rank_key(line, index):
    pattern, _, _, firm = read_line(line)
    tests, _ = split_pattern(pattern)
    return (
        firm,
        sum(mark != "" for _, mark in tests),
        sum(kind != "*" for kind, _ in tests),
        index,
    )


def reasons(lines, tree):
    """The reason table of a tree, from the words of the document."""
    table = {}
    for place in places_of(tree):
        table[place] = {}
        for name in PROPERTY_NAMES:
            bids = [index for index, line in enumerate(lines)
                    if read_line(line)[1] == name and match(read_line(line)[0], tree, place)]
            if bids:
                best = max(bids, key=lambda index: rank_key(lines[index], index))
                table[place][name] = (read_line(lines[best])[2], ("row", best))
            elif name in ("face", "size", "wide") and place:
                table[place][name] = (table[place[:-1]][name][0], ("parent",))
            else:
                table[place][name] = (DEFAULT_VALUES[name], ("default",))
    return table


def style(table, place):
    return tuple(table[place][name][0] for name in PROPERTY_NAMES)


def shapes(many):
    """All nested tuples that stand for forests with this many elements."""
    if many == 0:
        return [()]
    found = []
    for first in range(1, many + 1):
        for inner in shapes(first - 1):
            for rest in shapes(many - first):
                found.append((inner,) + rest)
    return found


def labelled(shape, labels):
    """All tuples of elements of this shape with these labels."""
    if not shape:
        return [()]
    found = []
    for kind, mark in labels:
        for children in labelled(shape[0], labels):
            for rest in labelled(shape[1:], labels):
                found.append(((kind, mark, children),) + rest)
    return found


def fits(rows, root, tree):
    """Whether a tree without texts is one of the grammar with these rows."""
    inner = {kind: kinds for kind, _, kinds in rows}

    def may_hold(node):
        return all(child[0] in inner[node[0]] and may_hold(child) for child in node[2])

    return tree[0] == root and may_hold(tree)


def trees_of(rows, root, many, marks):
    """All trees of a grammar without texts, made the slow way, in order."""
    labels = [(kind, mark) for kind, _, _ in rows for mark in marks]
    found = []
    for inner in shapes(many - 1):
        for tree in labelled((inner,), labels):
            if fits(rows, root, tree[0]):
                found.append(tree[0])
    return sorted(found)
