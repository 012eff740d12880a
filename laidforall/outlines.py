"""Outlines: rings of points, and the cells that they ink at a size."""

from laidforall.errors import BadOutline
from laidforall.inks import Ink

# At this size each triangle of a unit square has a cell whose centre is in it.
TELLING_SIZE = 3

# Where, in a unit square of that size, the cell of each triangle is.
SIDES = (
    ("bottom", 1, 2),
    ("left", 0, 1),
    ("right", 2, 1),
    ("top", 1, 0),
)


def _edges(ring):
    """Return the edges of a ring: the pairs of a point and the next one."""
    return list(zip(ring, ring[1:] + ring[:1]))


def _is_edge(start, end):
    """Tell whether an edge has a length and one of the allowed directions."""
    right = abs(end[0] - start[0])
    down = abs(end[1] - start[1])
    return (right, down) != (0, 0) and (right == 0 or down == 0 or right == down)


def check_outline(outline):
    """Raise BadOutline with the first ring and point whose edge is not allowed."""
    for index, ring in enumerate(outline):
        for point, (start, end) in enumerate(_edges(ring)):
            if not _is_edge(start, end):
                raise BadOutline(index, point)


def _scaled_edges(outline, size):
    """Return all edges that are not horizontal, at a size, their upper end first."""
    found = []
    for ring in outline:
        for (left, high), (right, low) in _edges(ring):
            start = (left * size, high * size)
            end = (right * size, low * size)
            if high < low:
                found.append((start, end))
            elif high > low:
                found.append((end, start))
    return found


def _crossing(edge, y):
    """Return the x of the first cell in row y whose centre is not left of an edge."""
    (x, top), (other, _) = edge
    if other == x:
        return x
    # A diagonal meets the line in the centre of a cell, which is not left of it.
    if other > x:
        return x + y - top
    return x - (y - top) - 1


def _runs_in_row(edges, y):
    """Return runs of the inked cells in row y."""
    found = sorted([_crossing(edge, y) for edge in edges if edge[0][1] <= y < edge[1][1]])
    # Each ring crosses the line an even number of times, so the edges make pairs.
    return [(y, start, end) for start, end in zip(found[0::2], found[1::2]) if start < end]


def inked(outline, size):
    """Return the ink of an outline at a size."""
    edges = _scaled_edges(outline, size)
    if not edges:
        return Ink()
    first = min([start[1] for start, _ in edges])
    last = max([end[1] for _, end in edges])
    runs = []
    for y in range(first, last):
        runs.extend(_runs_in_row(edges, y))
    return Ink.of_runs(runs)


def triangles_of(outline):
    """Return the list of the covered triangles (i, j, side), in order."""
    ink = inked(outline, TELLING_SIZE)
    found = []
    for y, start, end in ink.runs:
        for x in range(start, end):
            spot = (x % TELLING_SIZE, y % TELLING_SIZE)
            for side, right, down in SIDES:
                if spot == (right, down):
                    found.append((x // TELLING_SIZE, y // TELLING_SIZE, side))
    return sorted(found)


def _cells_of(side, size):
    """Return the number of cells of a covered triangle at a size."""
    half = size // 2
    if side == "left":
        return (size * (size - 1) // 2 - half) // 2
    if side == "bottom":
        return (size * (size - 1) // 2 - half) // 2 + half
    if side == "top":
        return (size * (size + 1) // 2 - (size - half)) // 2
    return (size * (size + 1) // 2 - (size - half)) // 2 + size - half


def count_cells(outline, size):
    """Return the number of cells that an outline inks at a size."""
    return sum([_cells_of(spot[2], size) for spot in triangles_of(outline)])


def part_size(first, second):
    """Return the least size at which two outlines ink other cells, or None."""
    # Outlines that ink the same cells at size 3 do so at every size.
    for size in range(1, TELLING_SIZE + 1):
        if inked(first, size) != inked(second, size):
            return size
    return None
