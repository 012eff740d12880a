"""Books: the room on the pages, and what breaks cost."""

from laidforall.errors import BadBook

GREATEST = 2000

# The least and the greatest value of each field that is a number.
NUMBER_RANGES = {
    "room": (1, GREATEST),
    "height": (1, GREATEST),
    "joint": (0, GREATEST),
    "over": (0, GREATEST),
    "keep": (0, GREATEST),
    "orphan": (0, GREATEST),
    "widow": (0, GREATEST),
    "wait": (0, GREATEST),
    "columns": (1, 4),
    "gutter": (0, 40),
}


def _check_field(name, value):
    """Raise BadBook if a field cannot have a value, of whatever kind."""
    if name not in NUMBER_RANGES:
        if not isinstance(value, bool):
            raise BadBook(name)
    elif isinstance(value, bool) or not isinstance(value, int):
        raise BadBook(name)
    else:
        least, greatest = NUMBER_RANGES[name]
        if not least <= value <= greatest:
            raise BadBook(name)


class Book:
    """The fields that are named in FIELDS."""

    FIELDS = (
        "room", "height", "joint", "over", "keep", "orphan", "widow", "wait",
        "columns", "gutter", "full",
    )

    def __init__(self, room, height, *, joint=0, over=100, keep=0, orphan=0, widow=0, wait=0,
                 columns=1, gutter=1, full=False):
        worths = (room, height, joint, over, keep, orphan, widow, wait, columns, gutter, full)
        for name, value in zip(Book.FIELDS, worths):
            _check_field(name, value)
        self.room = room
        self.height = height
        self.joint = joint
        self.over = over
        self.keep = keep
        self.orphan = orphan
        self.widow = widow
        self.wait = wait
        self.columns = columns
        self.gutter = gutter
        self.full = full
        self._worths = worths

    def __eq__(self, other):
        if not isinstance(other, Book):
            return NotImplemented
        return self._worths == other._worths

    def changed(self, **fields):
        """Return a new book with these fields changed."""
        told = {}
        for name, value in zip(Book.FIELDS, self._worths):
            told[name] = value
        for name in fields:
            if name not in told:
                raise BadBook(name)
            told[name] = fields[name]
        return Book(**told)
