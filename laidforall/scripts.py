"""Scripts: what a block element, a note or a figure says, and how that is divided.

A sign is a triple (origin, char, owner): its origin, the sign itself, and the
place of the element whose style it has.
"""

from laidforall.faces import BLANK
from laidforall.families import END_TIE
from laidforall.steps import BLANK_TIE, JOINT_TIE
from laidforall.trees import all_places, element_at

BLOCK_ROLES = ("block", "head")

SPAN = "span"

FIGURE = "figure"

REF = "ref"


def role_at(grammar, tree, place):
    """Return the role of the element at a place."""
    kind = element_at(tree, place)[0]
    return grammar[kind][0]


def ref_places(grammar, tree):
    """Return the list of the places of the elements with the role ref, in reading order."""
    return [place for place in all_places(tree) if role_at(grammar, tree, place) == REF]


def number_texts(grammar, tree, numbers):
    """Return the dict from the place of each ref element to its text."""
    told = {}
    for index, place in enumerate(ref_places(grammar, tree)):
        told[place] = str(numbers[index]) if index < len(numbers) else "0"
    return told


class Script:
    """The script of the element at a place, with the texts of the ref elements.

    The attribute signs lists its signs other than blanks; starts lists the
    indexes of those that begin a token. The attribute cuts lists a triple
    (start, end, tie) for each piece: the indexes of its signs and the name of
    the tie behind it; calls lists the pairs (place, piece) of the notes and
    figures in it and the indexes of the pieces that call them.
    """

    def __init__(self, setting, tree, place, texts):
        self.place = place
        self.role = role_at(setting.grammar, tree, place)
        self.is_block = self.role in BLOCK_ROLES
        self.signs = []
        self.starts = []
        self._is_open = False
        self._called = []
        self._read(setting.grammar, element_at(tree, place), place, texts)
        self.cuts = []
        for token, start in zip(self.told_tokens(), self.starts):
            self._cut(setting.joints, token, start)
        self.calls = [(below, self._caller(ahead)) for below, ahead in self._called]

    def _read(self, grammar, element, place, texts):
        """Add the signs and the calls of an element."""
        for index, child in enumerate(element[2]):
            below = place + (index,)
            if isinstance(child, str):
                self._add(child, below, place)
            elif below in texts:
                self._add(texts[below], below, below)
            elif grammar[child[0]][0] == SPAN:
                self._read(grammar, child, below, texts)
            else:
                self._called.append((below, len(self.signs)))

    def _add(self, text, place, owner):
        """Add the signs of a text."""
        for index, char in enumerate(text):
            if char == BLANK:
                self._is_open = False
            else:
                if not self._is_open:
                    self.starts.append(len(self.signs))
                self._is_open = True
                self.signs.append(((place, index, 0), char, owner))

    def told_tokens(self):
        """Return the list of the tokens."""
        chars = [char for _, char, _ in self.signs]
        ends = self.starts[1:] + [len(chars)]
        return ["".join(chars[start:end]) for start, end in zip(self.starts, ends)]

    def _cut(self, joints, token, start):
        """Add the pieces of a token that begins with a sign."""
        begun = start
        for syllable in joints(token):
            end = begun + len(syllable)
            tie = JOINT_TIE
            if end == len(self.signs):
                tie = END_TIE[0]
            elif end == start + len(token):
                tie = BLANK_TIE
            self.cuts.append((begun, end, tie))
            begun = end

    def _caller(self, ahead):
        """Return the index of the piece that calls what stands behind so many signs."""
        for number, (_, end, _) in enumerate(self.cuts):
            if ahead <= end:
                return number
        return 0
