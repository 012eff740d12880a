"""Descriptions: plates written as lines."""

from laidforall.errors import BadLine
from laidforall.faces import BLANK
from laidforall.names import is_sign, read_number

PAGE = "page"

FACE = "face"

SIZE = "size"

AT = "at"


def _leads_to(faces, entry, other):
    """Tell whether a sign of a plate leads to another one."""
    page, y, x, face, size, sign = entry
    later = x + faces[face].advance(sign) * size
    return other[:5] == (page, y, later, face, size)


def _runs_of(plate, faces):
    """Return the list of the runs of a plate, each a list of signs."""
    runs = []
    for entry in plate:
        if runs and _leads_to(faces, runs[-1][-1], entry):
            runs[-1].append(entry)
        else:
            runs.append([entry])
    return runs


def describe(plate, faces):
    """Return the list of the lines of the description of a plate."""
    lines = []
    last_page = None
    last_face = None
    for run in _runs_of(plate, faces):
        page, y, x, face, size, _ = run[0]
        if page != last_page:
            lines.append(f"{PAGE} {page}")
        if (face, size) != last_face:
            lines.append(f"{FACE} {face} {SIZE} {size}")
        last_page = page
        last_face = (face, size)
        text = "".join([entry[5] for entry in run])
        lines.append(f"{AT} {x} {y} {text}")
    return lines


def _number_in(word, least, greatest):
    """Return the number that is written so, if it is in a range (None: of any size), or None."""
    number = read_number(word)
    if number is None or number < least or greatest is not None and number > greatest:
        return None
    return number


def _is_run(text):
    """Tell whether a string is a run: one or more signs without blanks."""
    return text != "" and all([is_sign(char) and char != BLANK for char in text])


class Reader:
    """Reads a description; the attribute plate lists the signs in the order of reading."""

    def __init__(self, faces):
        self._faces = faces
        self._page = None
        self._face = None
        self.plate = []

    def take(self, line):
        """Read a line; tell whether it is one."""
        words = line.split(" ")
        if words[0] == PAGE and len(words) == 2:
            return self._take_page(words[1])
        if words[0] == FACE and len(words) == 4 and words[2] == SIZE:
            return self._take_face(words[1], words[3])
        if words[0] == AT and len(words) == 4:
            return self._take_run(words[1], words[2], words[3])
        return False

    def _take_page(self, word):
        """Begin a page; tell whether the word is its number."""
        number = _number_in(word, 1, None)
        if number is not None:
            self._page = number
        return number is not None

    def _take_face(self, word, other):
        """Set face and size; tell whether the words are such."""
        face = _number_in(word, 0, 2)
        size = _number_in(other, 1, 3)
        if face is None or size is None:
            return False
        self._face = (face, size)
        return True

    def _take_run(self, right, down, text):
        """Place the signs of a run; tell whether the words are one and nothing is missing."""
        x = read_number(right)
        y = read_number(down)
        if x is None or y is None or not _is_run(text) or self._page is None or self._face is None:
            return False
        face, size = self._face
        for char in text:
            self.plate.append((self._page, y, x, face, size, char))
            x += self._faces[face].advance(char) * size
        return True


def read_description(lines, faces):
    """Return the plate of the signs of a description; raise BadLine for the first wrong line."""
    reader = Reader(faces)
    for index, line in enumerate(lines):
        if not reader.take(line):
            raise BadLine(index + 1)
    return sorted(reader.plate)
