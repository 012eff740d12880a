"""Placing: where each sign of a tree stands on the pages."""

from laidforall.layings import line_gap
from laidforall.numbering import Best
from laidforall.passages import HYPHEN, Composition
from laidforall.steps import BLANK_TIE, JOINT_TIE


class Column:
    """The figures on the top of a column, and its lines.

    A line is a triple (index of its passage, start, end) of the numbers of its
    pieces in the galley.
    """

    def __init__(self, inserts):
        self.inserts = inserts
        self.lines = []


def columns_of(composition, laying):
    """Return the list of the columns of a laying, the further ones included."""
    waiting = [insert for passage in composition.passages
               for inserts in passage.inserts for insert in inserts]
    columns = []
    placed = 0
    start = 0
    for end, figures in laying:
        if figures is not None:
            columns.append(Column(waiting[placed:placed + figures]))
            placed += figures
        index = composition.galley.block_at(start)[0]
        columns[-1].lines.append((index, start, end))
        start = end
    return columns + [Column([insert]) for insert in waiting[placed:]]


def page_of(book, index):
    """Return the page on which the column with an index stands."""
    return index // book.columns + 1


class Placer:
    """Puts signs on pages; the attribute placed lists the placed signs."""

    def __init__(self, composition, book):
        self._composition = composition
        self._book = book
        self.placed = []

    def put_column(self, index, column):
        """Put what is in the column with an index."""
        book = self._book
        page = page_of(book, index)
        left = index % book.columns * (book.room + book.gutter)
        y = 0
        for insert in column.inserts:
            y = self._put_alone(insert, page, left, y)
        below = []
        for number, start, end in column.lines:
            passage = self._composition.passages[number]
            y = self._put_line_of_block(passage, start, end, page, left, y)
            first = self._composition.galley.block_at(start)[1]
            for called in passage.notes[start - first:end - first]:
                below.extend(called)
        y = max(y, book.height - sum([note.tall for note in below]))
        for note in below:
            y = self._put_alone(note, page, left, y)

    def _put_line_of_block(self, passage, start, end, page, left, y):
        """Put a line below y; return where it ends."""
        galley = self._composition.galley
        first = galley.block_at(start)[1]
        x = left
        top = y
        if start == first:
            x = left + passage.indent
            top = y + passage.before
        gap = line_gap(galley, self._book, start, end) if self._book.full else 0
        self._put_line(passage, (start - first, end - first), (page, x, top), gap)
        return top + passage.height

    def _put_alone(self, passage, page, left, y):
        """Put the lines of a note or figure below y; return where they end."""
        start = 0
        for end in passage.ends:
            self._put_line(passage, (start, end), (page, left, y), 0)
            y += passage.height
            start = end
        return y

    def _put_line(self, passage, line, spot, gap):
        """Put a line, the pieces (start, end) of a passage, with a gap to be filled."""
        start, end = line
        page, x, y = spot
        cuts = passage.script.cuts[start:end]
        many = len([cut for cut in cuts[:-1] if cut[2] == BLANK_TIE])
        blanks = 0
        for begun, behind, tie in cuts:
            for number in range(begun, behind):
                self._put(passage, passage.script.signs[number], (page, x, y))
                x += passage.widths[number]
            if tie == BLANK_TIE and blanks < many:
                blanks += 1
                x += passage.blank + gap * blanks // many - gap * (blanks - 1) // many
        if cuts[-1][2] == JOINT_TIE:
            origin = passage.script.signs[cuts[-1][1] - 1][0]
            hyphen = (origin[:2] + (1,), HYPHEN, passage.script.place)
            self._put(passage, hyphen, (page, x, y))

    def _put(self, passage, told, spot):
        """Put a sign (origin, char, owner) into a line at a spot."""
        origin, char, owner = told
        page, x, y = spot
        face, size, _, drop, _, _ = passage.styles[owner]
        if passage.script.is_block and owner == passage.script.place:
            drop = 0
        self.placed.append((origin, page, x, y + drop, face, size, char))


def signs_of(composition, book, laying):
    """Return the list of the placed signs of a laying, in order."""
    placer = Placer(composition, book)
    for index, column in enumerate(columns_of(composition, laying)):
        placer.put_column(index, column)
    return sorted(placer.placed)


def placed_signs(setting, tree, *, numbers=(), which=0):
    """Return the list of the placed signs of a tree in the best laying with a number."""
    composition = Composition(setting, tree, numbers)
    laying = Best(composition.galley, setting.book).nth(which)
    return signs_of(composition, setting.book, laying)


def plate_of(placed):
    """Return the plate of a list of placed signs."""
    return sorted([(page, y, x, face, size, sign) for _, page, x, y, face, size, sign in placed])
