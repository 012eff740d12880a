"""Random trees, patterns, rows and grammars for the tests, always the same ones."""

import random

import oracles

LETTERS = "abcdefghijklmnopqrstuvwxyz"

RANGES = {
    "face": (0, 2), "size": (1, 3), "wide": (0, 3),
    "drop": (0, 3), "indent": (0, 9), "before": (0, 9),
}


def chance(seed):
    return random.Random(seed)


def name(rnd):
    return "".join(rnd.choice(LETTERS) for _ in range(rnd.choice((1, 2, 3, 7, 8))))


def text(rnd):
    return "".join(rnd.choice(oracles.SIGNS) for _ in range(rnd.choice((1, 1, 2, 5))))


def tree(rnd, many, depth=12):
    """A random tree of at most this many elements and places of at most this length."""
    left = [many - 1]

    def element(deep):
        children = []
        while deep > 0 and rnd.random() < 0.6:
            if rnd.random() < 0.5 and not (children and isinstance(children[-1], str)):
                children.append(text(rnd))
            elif left[0] > 0:
                left[0] -= 1
                children.append(element(deep - 1))
        return name(rnd), rnd.choice(("", name(rnd))), tuple(children)

    return element(depth)


def small_tree(rnd, many, kinds, marks):
    """A random tree with exactly this many elements and few kinds and marks."""
    shape = rnd.choice(oracles.shapes(many - 1))

    def element(inner):
        children = []
        for part in inner:
            if rnd.random() < 0.3:
                children.append("x")
            children.append(element(part))
        return rnd.choice(kinds), rnd.choice(marks), tuple(children)

    return element(shape)


def pattern(rnd, kinds, marks, most=4):
    words = []
    for at in range(rnd.randint(1, most)):
        if at > 0:
            words.append(rnd.choice((" ", " > ", " + ")))
        words.append(rnd.choice(kinds + ["*"]))
        if rnd.random() < 0.5:
            words.append("." + rnd.choice(marks))
    return "".join(words)


def row(rnd, kinds, marks, names, most=4):
    chosen = rnd.choice(names)
    least, greatest = RANGES[chosen]
    value = rnd.randint(least, min(greatest, least + 2))
    firm = rnd.choice(("", "", "", " firm"))
    return f"{pattern(rnd, kinds, marks, most)}: {chosen} {value}{firm}"


def grammar_rows(rnd, many):
    """The rows of a random grammar with the root kind r and this many others."""
    kinds = ["a", "b", "c", "d"][:many]
    roles = [rnd.choice(("block", "head"))]
    for _ in kinds[1:]:
        roles.append(rnd.choice(("block", "head", "span", "span", "note", "figure", "ref")))
    rows = []
    for kind, role in [("r", "root")] + list(zip(kinds, roles)):
        inner = [other for other, inside in zip(kinds, roles)
                 if inside in oracles.ALLOWED_INSIDE[role] and rnd.random() < 0.9]
        rnd.shuffle(inner)
        rows.append((kind, role, tuple(inner)))
    rnd.shuffle(rows)
    return rows
