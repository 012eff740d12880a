"""Faces: how wide the signs are, and how they look."""

from laidforall.errors import BadFace

BLANK = " "


class Face:
    """A name, a height, a blank width and face rows (sign, advance, outline)."""

    def __init__(self, name, height, blank, rows):
        told = {}
        for sign, advance, outline in rows:
            if sign == BLANK or sign in told:
                raise BadFace(sign)
            told[sign] = (advance, outline)
        self.name = name
        self.height = height
        self.blank = blank
        self._rows = told

    def __contains__(self, sign):
        return sign in self._rows

    def __len__(self):
        return len(self._rows)

    def __iter__(self):
        return iter(self._rows)

    def advance(self, sign):
        """Return the advance of a sign."""
        if sign == BLANK:
            return self.blank
        if sign not in self._rows:
            return 1
        return self._rows[sign][0]

    def outline(self, sign):
        """Return the outline of a sign."""
        if sign not in self._rows:
            return ()
        return self._rows[sign][1]

    def __call__(self, text, size=1, wide=0):
        """Return the width of a string of signs."""
        return sum([self.advance(sign) * size + wide for sign in text])
