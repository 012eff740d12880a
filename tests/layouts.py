"""Points 40 to 60 in slow and plain words, for the tests, and random inputs for them.

Nothing here uses the part of the program that it judges.
"""

import itertools

COSTS = ("joint", "over", "keep", "orphan", "widow", "wait")


def joint_fits(line, word, gap):
    """Whether a written joint row fits a gap: slide its letters over the dotted word."""
    left, right = line.split(" ")[0].split("-")
    dotted = "." + word + "."
    start = gap + 1 - len(left)
    if start < 0 or gap + 1 + len(right) > len(dotted):
        return False
    return all(want == char or want == "?" and char != "."
               for want, char in zip(left + right, dotted[start:]))


def joint_decider(lines, word, gap):
    return next((at for at, line in enumerate(lines) if joint_fits(line, word, gap)), None)


def word_joints(lines, word):
    found = []
    for gap in range(1, len(word)):
        at = joint_decider(lines, word, gap)
        if at is not None and not lines[at].endswith(" no"):
            found.append(gap)
    return found


def word_syllables(lines, word):
    borders = [0] + word_joints(lines, word) + [len(word)]
    return [word[start:end] for start, end in zip(borders, borders[1:])]


def words_up_to(letters, most):
    for length in range(1, most + 1):
        for word in itertools.product(letters, repeat=length):
            yield "".join(word)


def can_be_set(lines, word, weight, hyphen, room, first):
    """Try all ways to divide the syllables into lines."""
    widths = [sum(weight[letter] for letter in part) for part in word_syllables(lines, word)]
    for breaks in itertools.product((False, True), repeat=len(widths) - 1):
        rows = [[widths[0]]]
        for is_break, width in zip(breaks, widths[1:]):
            if is_break:
                rows.append([])
            rows[-1].append(width)
        sums = [sum(row) + (hyphen if at < len(rows) - 1 else 0) for at, row in enumerate(rows)]
        if sums[0] <= first and all(width <= room for width in sums[1:]):
            return True
    return False


class Page:
    """One would-be laying, looked at line by line and column by column."""

    def __init__(self, blocks, book, laying):
        self.book = book
        self.pieces = [(at, piece) for at, block in enumerate(blocks) for piece in block[4]]
        self.blocks = blocks
        self.firsts = {}
        self.lasts = {}
        for number, (at, _) in enumerate(self.pieces):
            self.firsts.setdefault(at, number)
            self.lasts[at] = number + 1
        self.laying = laying
        ends = [step[0] for step in laying]
        self.lines = list(zip([0] + ends, ends))
        self.figures = [(number, height) for number, (_, piece) in enumerate(self.pieces)
                        for height in piece[3]]

    def width(self, line):
        start, end = line
        at = self.pieces[start][0]
        parts = [piece for _, piece in self.pieces[start:end]]
        total = sum(piece[0] for piece in parts)
        total += sum(piece[1][1] for piece in parts[:-1] if piece[1][0] == "blank")
        if parts[-1][1][0] == "joint":
            total += parts[-1][1][1]
        return total + (self.blocks[at][1] if start == self.firsts[at] else 0)

    def is_first(self, line):
        return line[0] == self.firsts[self.pieces[line[0]][0]]

    def is_last(self, line):
        return line[1] == self.lasts[self.pieces[line[0]][0]]

    def gap(self, line):
        return 0 if self.is_last(line) else max(0, self.book.room - self.width(line))

    def line_cost(self, line):
        cost = self.gap(line) ** 2 + self.book.over * max(0, self.width(line) - self.book.room)
        return cost + (self.book.joint if self.pieces[line[1] - 1][1][1][0] == "joint" else 0)

    def need(self, line):
        block = self.blocks[self.pieces[line[0]][0]]
        notes = sum(sum(piece[2]) for _, piece in self.pieces[line[0]:line[1]])
        return block[0] + notes + (block[2] if self.is_first(line) else 0)

    def lines_are_good(self):
        if not self.lines:
            return not self.pieces
        if self.lines[-1][1] != len(self.pieces):
            return False
        for start, end in self.lines:
            if not start < end or len({at for at, _ in self.pieces[start:end]}) != 1:
                return False
            if end - start > 1 and self.width((start, end)) > self.book.room:
                return False
        return True

    def columns(self):
        """A list of (lines, heights of the figures, line that begins it), or None."""
        found = []
        placed = 0
        for at, (line, (_, count)) in enumerate(zip(self.lines, self.laying)):
            if at == 0 and count != 0:
                return None
            if count is None:
                found[-1][0].append(line)
                continue
            called = [number for number, _ in self.figures if number < line[0]]
            if not 0 <= count <= len(called) - placed:
                return None
            found.append(([line], [height for _, height in self.figures[placed:placed + count]]))
            placed += count
        return found

    def used(self, column):
        return sum(self.need(line) for line in column[0]) + sum(column[1])

    def is_laying(self):
        if not self.lines_are_good():
            return False
        columns = self.columns()
        if columns is None:
            return False
        return all(self.used(column) <= self.book.height or len(column[0]) == 1 and not column[1]
                   for column in columns)

    def cost(self):
        book = self.book
        total = sum(self.line_cost(line) for line in self.lines)
        columns = self.columns()
        placed = 0
        for before, column in zip(columns, columns[1:]):
            last, new = before[0][-1], column[0][0]
            total += max(0, book.height - self.used(before)) ** 2
            if self.is_last(last) and self.blocks[self.pieces[last[0]][0]][3]:
                total += book.keep
            if self.is_first(last) and not self.is_last(last):
                total += book.orphan
            if self.is_last(new) and not self.is_first(new):
                total += book.widow
            placed += len(column[1])
            called = [number for number, _ in self.figures if number < new[0]]
            total += book.wait * (len(called) - placed)
        return total + book.wait * (len(self.figures) - placed)

    def broken_at(self, promise):
        """The index of the line with which a promise is broken, or None."""
        columns = self.columns()
        number = 0
        for index, column in enumerate(columns):
            for at, line in enumerate(column[0]):
                before = columns[index - 1] if at == 0 and index > 0 else None
                height = self.used((column[0][:at + 1], column[1]))
                if self.breaks(promise, line, before, height):
                    return number
                number += 1
        return None

    def breaks(self, promise, line, before, height):
        """before is the column before if the line begins a further column."""
        name = promise[0]
        if name == "loose":
            return self.gap(line) > promise[1]
        if name == "fits":
            return self.width(line) > self.book.room or height > self.book.height
        if before is None:
            return False
        last = before[0][-1]
        if name == "keep":
            return self.is_last(last) and self.blocks[self.pieces[last[0]][0]][3]
        if name == "orphan":
            return self.is_first(last) and not self.is_last(last)
        if name == "widow":
            return self.is_last(line) and not self.is_first(line)
        return self.book.height - self.used(before) > promise[1]


def all_layings(blocks, book):
    """All layings with their costs, in order, by trying everything."""
    many = sum(len(block[4]) for block in blocks)
    counts = [None] + list(range(sum(len(piece[3]) for block in blocks for piece in block[4]) + 1))
    found = []
    for ends in itertools.chain.from_iterable(
            itertools.combinations(range(1, many + 1), size) for size in range(many + 1)):
        if many > 0 and many not in ends:
            continue
        if not Page(blocks, book, tuple((end, 0) for end in ends)).lines_are_good():
            continue
        for chosen in itertools.product([0], *[counts] * (len(ends) - 1)) if ends else [()]:
            laying = tuple(zip(ends, chosen))
            page = Page(blocks, book, laying)
            if page.is_laying():
                found.append((laying, page.cost()))
    return sorted(found, key=lambda pair: [(end, -1 if count is None else count)
                                           for end, count in pair[0]])


def block(height, indent, before, keep, *pieces):
    """A block of pieces (width, tie, notes, figures), the last of which gets the tie end."""
    told = [(piece + ((), ()))[:4] for piece in pieces]
    last = told[-1]
    return (height, indent, before, keep, tuple(told[:-1]) + ((last[0], ("end",), last[2], last[3]),))


def random_piece(rnd, left):
    tie = (rnd.choice(("blank", "joint")), rnd.randint(0, 2))
    notes = tuple(rnd.randint(1, 2) for _ in range(rnd.choice((0, 0, 0, 1, 2))))
    count = min(left[0], rnd.choice((0, 0, 0, 1, 2)))
    left[0] -= count
    return rnd.randint(1, 4), tie, notes, tuple(rnd.randint(1, 3) for _ in range(count))


def random_blocks(rnd, most, figures):
    """Random blocks of at most this many pieces and figures in all."""
    left = [figures]
    found = []
    many = rnd.randint(1, most)
    while many > 0:
        size = rnd.randint(1, many)
        pieces = [random_piece(rnd, left) for _ in range(size)]
        found.append(block(rnd.randint(1, 2), rnd.choice((0, 0, 1, 2)), rnd.choice((0, 0, 1)),
                           rnd.random() < 0.4, *pieces))
        many -= size
    return found


def random_costs(rnd):
    """Random costs for a book, as keywords; many of them are 0, so that costs are often equal."""
    found = {name: rnd.choice((0, 0, 1, 2, 5)) for name in COSTS}
    found["over"] = rnd.choice((0, 1, 5, 100))
    return found
