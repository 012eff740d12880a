"""Joint rows: where words may be divided."""

from laidforall.errors import BadJoint, TooLarge
from laidforall.names import is_letter

MOST_JOINT_ROWS = 8

LONGEST_PART = 3

ANY_LETTER = "?"

WORD_END = "."

FORBIDS = " no"


def is_word(text):
    """Tell whether a string is a word."""
    return text != "" and all([is_letter(char) for char in text])


def _is_part(text, end):
    """Tell whether a string is a part; a dot may stand at the index end."""
    if len(text) > LONGEST_PART:
        return False
    for at, char in enumerate(text):
        if char != ANY_LETTER and not is_letter(char) and (char != WORD_END or at != end):
            return False
    return True


def _read_joint(line):
    """Return the joint row (left, right, forbids) that a line is; raise BadJoint if none."""
    left, dash, tail = line.partition("-")
    right = tail.removesuffix(FORBIDS)
    if dash == "" or not _is_part(left, 0) or not _is_part(right, len(right) - 1):
        raise BadJoint(line)
    return left, right, right != tail


def _says(part, text):
    """Tell whether a string of the same length is as a part says."""
    for wanted, char in zip(part, text):
        if wanted != char and (wanted != ANY_LETTER or not is_letter(char)):
            return False
    return True


def _fits(row, word, gap):
    """Tell whether a joint row fits a gap of a word."""
    left, right, _ = row
    before = WORD_END + word[:gap]
    behind = word[gap:] + WORD_END
    if len(left) > len(before) or len(right) > len(behind):
        return False
    return _says(left, before[len(before) - len(left):]) and _says(right, behind[:len(right)])


class Joints:
    """A list of at most eight joint rows."""

    def __init__(self, lines):
        if len(lines) > MOST_JOINT_ROWS:
            raise TooLarge(len(lines))
        self._lines = list(lines)
        self._rows = [_read_joint(line) for line in lines]

    def __len__(self):
        return len(self._lines)

    def __iter__(self):
        return iter(self._lines)

    def decider(self, word, gap):
        """Return the index of the row that decides a gap of a word, or None."""
        for index, row in enumerate(self._rows):
            if _fits(row, word, gap):
                return index
        return None

    def is_joint(self, word, gap):
        """Tell whether a gap of a word is a joint."""
        index = self.decider(word, gap)
        return index is not None and not self._rows[index][2]

    def gaps(self, word):
        """Return the list of the joints of a word."""
        return [gap for gap in range(1, len(word)) if self.is_joint(word, gap)]

    def __call__(self, token):
        """Return the list of the syllables of a token."""
        if not is_word(token):
            return [token]
        borders = [0] + self.gaps(token) + [len(token)]
        return [token[start:end] for start, end in zip(borders, borders[1:])]
