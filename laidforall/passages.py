"""Passages: scripts with their styles, as they are set in lines."""

from laidforall.books import GREATEST, Book
from laidforall.faces import BLANK
from laidforall.families import END_TIE
from laidforall.galleys import Galley
from laidforall.numbering import Best
from laidforall.scripts import FIGURE, Script, number_texts
from laidforall.steps import BLANK_TIE, JOINT_TIE
from laidforall.styles import PROPERTIES, reason_table

HEAD = "head"

HYPHEN = "-"


def all_styles(sheet, tree):
    """Return the dict from the place of each element to its style."""
    table = reason_table(sheet, tree)
    styles = {}
    for place in table:
        styles[place] = tuple([table[place][name][0] for name in PROPERTIES])
    return styles


def sign_width(faces, style, char):
    """Return the width of a sign in a style."""
    face = faces[style[0]]
    return face(char, style[1], style[2])


class Passage:
    """The passage of a script.

    The attribute height is that of one line, tall that of all its lines
    together, if it is a note or figure; ends then lists the indexes of the
    pieces behind its lines. The attributes notes and inserts list, for each
    piece, the passages of the notes and of the figures that it calls.
    """

    def __init__(self, setting, styles, script):
        own = styles[script.place]
        self.script = script
        self.styles = styles
        self.height = own[1] * setting.faces[own[0]].height
        self.indent = own[4] if script.is_block else 0
        self.before = own[5] if script.is_block else 0
        self.blank = sign_width(setting.faces, own, BLANK)
        self.hyphen = sign_width(setting.faces, own, HYPHEN)
        self.widths = [sign_width(setting.faces, styles[owner], char) for _, char, owner in script.signs]
        self.notes = [[] for _ in script.cuts]
        self.inserts = [[] for _ in script.cuts]
        self.ends = []
        self.tall = 0

    def block(self):
        """Return the block of the passage, with what its pieces call."""
        pieces = tuple([self._piece(number) for number in range(len(self.script.cuts))])
        return self.height, self.indent, self.before, self.script.role == HEAD, pieces

    def _piece(self, number):
        """Return the piece with a number."""
        start, end, name = self.script.cuts[number]
        tie = END_TIE
        if name == BLANK_TIE:
            tie = (BLANK_TIE, self.blank)
        elif name == JOINT_TIE:
            tie = (JOINT_TIE, self.hyphen)
        notes = tuple([note.tall for note in self.notes[number]])
        inserts = tuple([insert.tall for insert in self.inserts[number]])
        return sum(self.widths[start:end]), tie, notes, inserts

    def set_alone(self, book):
        """Find the lines of a note or figure."""
        galley = Galley([self.block()])
        best = Best(galley, Book(book.room, GREATEST, joint=book.joint, over=book.over))
        self.ends = [step[0] for step in best.nth()]
        self.tall = len(self.ends) * self.height


class Composition:
    """What a tree is composed to.

    The attribute passages lists the passages of the block elements that are
    not left out; galley is the galley of their blocks.
    """

    def __init__(self, setting, tree, numbers):
        setting.grammar.check(tree)
        self._setting = setting
        self._tree = tree
        self._texts = number_texts(setting.grammar, tree, numbers)
        self._styles = all_styles(setting.sheet, tree)
        self.passages = []
        for index in range(len(tree[2])):
            passage = self._passage((index,))
            if passage.script.cuts:
                self._add_calls(passage)
                self.passages.append(passage)
        self.galley = Galley([passage.block() for passage in self.passages])

    def _passage(self, place):
        """Return the passage of the element at a place."""
        script = Script(self._setting, self._tree, place, self._texts)
        return Passage(self._setting, self._styles, script)

    def _add_calls(self, passage):
        """Add the notes and figures that the pieces of a passage call."""
        for place, number in passage.script.calls:
            inner = self._passage(place)
            if inner.script.cuts:
                inner.set_alone(self._setting.book)
                if inner.script.role == FIGURE:
                    passage.inserts[number].append(inner)
                else:
                    passage.notes[number].append(inner)
