"""The words that commands and their answers are made of."""

from laidforall.errors import BadValue
from laidforall.names import read_number

ROOT = "root"

MOST_INDEXES = 12


def write_place(place):
    """Return the word for a place."""
    return ".".join([str(index) for index in place]) if place else ROOT


def read_place(word):
    """Return the place that is written so; raise BadValue if none is."""
    if word == ROOT:
        return ()
    place = tuple([read_number(part) for part in word.split(".")])
    if None in place or len(place) > MOST_INDEXES:
        raise BadValue(word)
    return place


def write_laying(laying):
    """Return the list of the lines for the steps of a laying."""
    lines = []
    for end, figures in laying:
        lines.append(str(end) if figures is None else f"{end} column {figures}")
    return lines
