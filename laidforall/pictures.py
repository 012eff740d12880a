"""Pictures: the cells that the signs of a page ink."""

from laidforall.inks import Ink
from laidforall.outlines import inked


def picture(plate, faces, page):
    """Return the ink of a page of a plate."""
    inks = {}
    runs = []
    for number, y, x, face, size, sign in plate:
        if number == page:
            key = (face, size, sign)
            if key not in inks:
                inks[key] = list(inked(faces[face].outline(sign), size))
            runs.extend([(row + y, start + x, end + x) for row, start, end in inks[key]])
    return Ink.of_runs(runs)


def drawn(ink):
    """Return the list of the strings that an ink is drawn as, one for each row of cells."""
    runs = list(ink)
    if not runs:
        return []
    left = min([start for _, start, _ in runs])
    right = max([end for _, _, end in runs])
    drawing = [["."] * (right - left) for _ in range(runs[0][0], runs[-1][0] + 1)]
    for y, start, end in runs:
        row = drawing[y - runs[0][0]]
        for x in range(start, end):
            row[x - left] = "#"
    return ["".join(row) for row in drawing]
