"""Points 70 to 80 in slow and plain words, for the tests, and random settings and trees for them.

Nothing here uses the part of the program that it judges; layings are asked of
the program, as tests of their own hold them against a search.
"""

import layouts
import oracles
import samples
from laidforall.books import Book
from laidforall.faces import Face
from laidforall.galleys import Galley
from laidforall.grammars import Grammar
from laidforall.joints import Joints
from laidforall.numbering import Best
from laidforall.settings import Setting
from laidforall.sheets import Sheet

USUAL_ROWS = [
    ("doc", "root", ("head", "par")), ("head", "head", ("em", "see")),
    ("par", "block", ("em", "note", "fig", "see")), ("em", "span", ("em", "see")),
    ("note", "note", ("em",)), ("fig", "figure", ("em",)), ("see", "ref", ()),
]

# The same with other kinds, and with more kinds of some roles.
OTHER_ROWS = [
    ("a", "ref", ()), ("b", "span", ("a",)), ("c", "span", ("b", "c")), ("d", "figure", ("b", "c")),
    ("e", "note", ("c",)), ("f", "note", ()), ("g", "head", ("a", "b")), ("h", "block", ("a", "b", "d", "e", "f")),
    ("i", "block", ("f",)), ("k", "root", ("i", "h", "g")),
]

SQUARE = (((0, 0), (1, 0), (1, 1), (0, 1)),)

BAR = (((0, 0), (2, 0), (2, 1), (0, 1)), ((1, 1), (3, 3), (1, 3)))


class Plan:
    """All that a setting is made of, as plain values."""

    def __init__(self, rows, root, lines, faces, joints, book):
        self.rows = rows
        self.root = root
        self.lines = list(lines)
        self.faces = faces
        self.joints = list(joints)
        self.book = book
        self.roles = {kind: role for kind, role, _ in rows}

    def setting(self):
        faces = [Face(f"face {at}", height, blank, [(sign,) + rest for sign, rest in rows.items()])
                 for at, (height, blank, rows) in enumerate(self.faces)]
        return Setting(Grammar(self.root, self.rows), Sheet(self.lines), faces, Joints(self.joints), self.book)

    def with_lines(self, lines):
        return Plan(self.rows, self.root, lines, self.faces, self.joints, self.book)

    def with_book(self, book):
        return Plan(self.rows, self.root, self.lines, self.faces, self.joints, book)


def usual_plan(lines=(), joints=(), book=None, faces=None):
    plain = (1, 1, {})
    return Plan(USUAL_ROWS, "doc", lines, faces or [plain, plain, plain], joints, book or Book(10, 10))


def styles(plan, tree):
    table = oracles.reasons(plan.lines, tree)
    return {place: oracles.style(table, place) for place in table}


def width(plan, style, text):
    """The width of some signs in a style."""
    _, blank, rows = plan.faces[style[0]]
    total = 0
    for sign in text:
        advance = blank if sign == " " else rows[sign][0] if sign in rows else 1
        total += advance * style[1] + style[2]
    return total


def numbers_told(plan, tree, numbers):
    places = [place for place, node in oracles.nodes_of(tree)
              if not isinstance(node, str) and plan.roles[node[0]] == "ref"]
    told = list(numbers) + [0] * len(places)
    return {place: str(told[at]) for at, place in enumerate(places)}


def events(plan, tree, place, texts):
    """What comes in a block element, note or figure: (origin, sign, owner), or the place of a call."""
    nodes = dict(oracles.nodes_of(tree))
    found = []
    barred = []
    for other in sorted(nodes):
        if len(other) <= len(place) or other[:len(place)] != place or any(
                other[:len(bar)] == bar for bar in barred):
            continue
        if isinstance(nodes[other], str):
            found.extend(((other, at, 0), sign, other[:-1]) for at, sign in enumerate(nodes[other]))
        elif plan.roles[nodes[other][0]] == "ref":
            found.extend(((other, at, 0), sign, other) for at, sign in enumerate(texts[other]))
        elif plan.roles[nodes[other][0]] in ("note", "figure"):
            barred.append(other)
            found.append(other)
    return found


class Set:
    """One block element, note or figure of a tree, as it is to be set."""

    def __init__(self, plan, tree, place, texts, style_table):
        self.plan = plan
        self.place = place
        self.role = plan.roles[oracles.node_of(tree, place)[0]]
        self.styles = style_table
        self.style = style_table[place]
        told = events(plan, tree, place, texts)
        self.signs = [event for event in told if len(event) == 3 and isinstance(event[1], str)]
        words = "".join(sign for _, sign, _ in self.signs).split(" ")
        self.tokens = [word for word in words if word]
        self.black = [event for event in self.signs if event[1] != " "]
        self.pieces = []
        at = 0
        for token in self.tokens:
            parts = layouts.word_syllables(plan.joints, token) if token.isalpha() and token.islower() else [token]
            for part in parts:
                self.pieces.append([self.black[at:at + len(part)], "joint"])
                at += len(part)
            self.pieces[-1][1] = "blank"
        if self.pieces:
            self.pieces[-1][1] = "end"
        self.calls = []
        ahead = 0
        for event in told:
            if event in self.signs:
                ahead += event[1] != " "
            else:
                self.calls.append((event, self.caller(ahead)))
        self.inner = {}

    def caller(self, ahead):
        sizes = [len(signs) for signs, _ in self.pieces]
        if ahead == 0:
            return 0
        return next(at for at in range(len(sizes)) if sum(sizes[:at + 1]) >= ahead)

    def called(self, number, role):
        return [self.inner[place] for place, caller in self.calls
                if caller == number and place in self.inner and self.inner[place].role == role]

    def line_height(self):
        return self.style[1] * self.plan.faces[self.style[0]][0]

    def tie(self, name):
        widths = {"blank": width(self.plan, self.style, " "), "joint": width(self.plan, self.style, "-")}
        return (name,) if name == "end" else (name, widths[name])

    def sign_width(self, event):
        return width(self.plan, self.styles[event[2]], event[1])

    def block(self):
        pieces = []
        for number, (signs, tie) in enumerate(self.pieces):
            heights = [tuple(one.height() for one in self.called(number, role)) for role in ("note", "figure")]
            pieces.append((sum(map(self.sign_width, signs)), self.tie(tie), heights[0], heights[1]))
        is_block = self.role in ("block", "head")
        return (self.line_height(), self.style[4] if is_block else 0, self.style[5] if is_block else 0,
                self.role == "head", tuple(pieces))

    def lines(self):
        """The lines of a note or figure, as pairs of piece numbers."""
        book = self.plan.book
        own = Book(book.room, 2000, joint=book.joint, over=book.over)
        block = self.block()
        if len(block[4]) < 7:
            told = layouts.all_layings([block], own)
            least = min(cost for _, cost in told)
            laying = next(laying for laying, cost in told if cost == least)
        else:
            laying = Best(Galley([block]), own).nth()
        ends = [end for end, _ in laying]
        return list(zip([0] + ends, ends))

    def height(self):
        return len(self.lines()) * self.line_height()


def sets(plan, tree, numbers=()):
    """The block elements that are not left out, with their notes and figures."""
    texts = numbers_told(plan, tree, numbers)
    table = styles(plan, tree)
    found = []
    for at in range(len(tree[2])):
        one = Set(plan, tree, (at,), texts, table)
        if one.pieces:
            for place, _ in one.calls:
                other = Set(plan, tree, place, texts, table)
                if other.pieces:
                    one.inner[place] = other
            found.append(one)
    return found


def composed(plan, tree, numbers=()):
    return [one.block() for one in sets(plan, tree, numbers)]


def columns(blocks, laying):
    """The columns of a laying: (numbers of the figures, lines (block, start, end))."""
    owner = [(at, number) for at, block in enumerate(blocks) for number in range(len(block[4]))]
    figures = sum(len(piece[3]) for block in blocks for piece in block[4])
    found = []
    placed = start = 0
    for end, count in laying:
        if count is not None:
            found.append((list(range(placed, placed + count)), []))
            placed += count
        at, first = owner[start]
        found[-1][1].append((at, first, first + end - start))
        start = end
    return found + [([number], []) for number in range(placed, figures)]


def placed(plan, tree, numbers=(), which=0):
    """The placed signs of a tree, set column by column."""
    told = sets(plan, tree, numbers)
    blocks = [one.block() for one in told]
    book = plan.book
    laying = Best(Galley(blocks), book).nth(which)
    figures = [figure for one in told for number in range(len(one.pieces)) for figure in one.called(number, "figure")]
    found = []
    for at, (tops, lines) in enumerate(columns(blocks, laying)):
        corner = (at // book.columns + 1, (at % book.columns) * (book.room + book.gutter))
        y = 0
        for number in tops:
            found.extend(inner_signs(figures[number], corner, y))
            y += figures[number].height()
        notes = []
        for index, start, end in lines:
            one = told[index]
            if start == 0:
                y += one.style[5]
            found.extend(line_signs(one, start, end, corner, y, one.style[4] if start == 0 else 0, book.full))
            y += one.line_height()
            notes.extend(note for number in range(start, end) for note in one.called(number, "note"))
        y = max(y, book.height - sum(note.height() for note in notes))
        for note in notes:
            found.extend(inner_signs(note, corner, y))
            y += note.height()
    return sorted(found)


def inner_signs(one, corner, y):
    found = []
    for number, (start, end) in enumerate(one.lines()):
        found.extend(line_signs(one, start, end, corner, y + number * one.line_height(), 0, False))
    return found


def line_signs(one, start, end, corner, y, indent, full):
    """The placed signs of one line."""
    page, left = corner
    pieces = one.pieces[start:end]
    blanks = [tie for _, tie in pieces[:-1] if tie == "blank"]
    natural = indent + sum(one.sign_width(event) for signs, _ in pieces for event in signs)
    natural += len(blanks) * one.tie("blank")[1]
    if pieces[-1][1] == "joint":
        natural += one.tie("joint")[1]
    gap = one.plan.book.room - natural if full and pieces[-1][1] != "end" else 0
    gap = max(0, gap)
    x = left + indent
    found = []
    met = 0
    for number, (signs, tie) in enumerate(pieces):
        for origin, sign, owner in signs:
            style = one.styles[owner]
            down = 0 if owner == one.place and one.role in ("block", "head") else style[3]
            found.append((origin, page, x, y + down, style[0], style[1], sign))
            x += width(one.plan, style, sign)
        if tie == "blank" and number < len(pieces) - 1:
            met += 1
            x += one.tie("blank")[1] + gap * met // len(blanks) - gap * (met - 1) // len(blanks)
    if pieces[-1][1] == "joint":
        place, index, _ = pieces[-1][0][-1][0]
        down = 0 if one.role in ("block", "head") else one.style[3]
        found.append(((place, index, 1), page, x, y + down, one.style[0], one.style[1], "-"))
    return found


def random_faces(rnd):
    found = []
    for _ in range(3):
        rows = {sign: (rnd.randint(1, 3), rnd.choice(((), SQUARE, BAR))) for sign in "abx-07" if rnd.random() < 0.6}
        found.append((rnd.randint(1, 2), rnd.randint(1, 2), rows))
    return found


def random_book(rnd):
    costs = layouts.random_costs(rnd)
    return Book(rnd.randint(4, 14), rnd.randint(2, 9), columns=rnd.randint(1, 3), gutter=rnd.randint(0, 3),
                full=rnd.random() < 0.5, **costs)


def random_lines(rnd, kinds, marks, most=5, names=("face", "size", "wide", "drop", "indent", "before")):
    return [samples.row(rnd, kinds, marks, names, 2) for _ in range(rnd.randint(0, most))]


def random_plan(rnd, most=5):
    rows, root = rnd.choice(((USUAL_ROWS, "doc"), (OTHER_ROWS, "k")))
    kinds = [kind for kind, _, _ in rows]
    lines = random_lines(rnd, kinds, ["x"], most)
    joints = rnd.choice(([], ["a-b"], ["-"], ["a-b no", "-"], ["?a-"]))
    return Plan(rows, root, lines, random_faces(rnd), joints, random_book(rnd))


WORDS = ("a", "ab", "bab", "x", " ", "aB ", " b a", "ab ", "a bab ", "x ab b ")


def random_tree(rnd, plan, many):
    """A random tree of the grammar of a plan with at most this many elements."""
    inner = {kind: (role, kinds) for kind, role, kinds in plan.rows}
    left = [many - 1]

    def element(kind, deep):
        role, kinds = inner[kind]
        children = []
        while rnd.random() < (0.9, 0.85, 0.6, 0.4, 0.3)[deep]:
            if role not in ("root", "ref") and rnd.random() < 0.5:
                if not (children and isinstance(children[-1], str)):
                    children.append(rnd.choice(WORDS))
            elif kinds and left[0] > 0 and deep < 4:
                left[0] -= 1
                children.append(element(rnd.choice(kinds), deep + 1))
        return kind, rnd.choice(("", "", "x")), tuple(children)

    return element(plan.root, 0)
