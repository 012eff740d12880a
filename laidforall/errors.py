"""The errors of the program. Each is made from its fields, in their order."""


class LaidError(ValueError):
    """The error that all errors of the program are."""


class BadMarks(LaidError):
    """A string is no written form of a tree."""

    def __init__(self, at):
        self.at = at


class TooLarge(LaidError):
    """Something has more parts than are allowed."""

    def __init__(self, many):
        self.many = many


class NoPlace(LaidError):
    """Nothing, or no element, stands at a place."""

    def __init__(self, place):
        self.place = place


class Taken(LaidError):
    """A kind has two grammar rows."""

    def __init__(self, kind):
        self.kind = kind


class Unknown(LaidError):
    """A kind has no grammar row."""

    def __init__(self, kind):
        self.kind = kind


class Misfit(LaidError):
    """A kind has a role that may not stand where it stands."""

    def __init__(self, kind):
        self.kind = kind


class Strange(LaidError):
    """A node may not stand where it stands."""

    def __init__(self, place):
        self.place = place


class BadPattern(LaidError):
    """A string is no written pattern."""

    def __init__(self, text):
        self.text = text


class BadValue(LaidError):
    """A string is not what should be named there."""

    def __init__(self, text):
        self.text = text


class BadLine(LaidError):
    """A line, counted from 1, is not written as it should be."""

    def __init__(self, line):
        self.line = line


class BadOutline(LaidError):
    """An edge of an outline has no length or a wrong direction."""

    def __init__(self, ring, point):
        self.ring = ring
        self.point = point


class BadFace(LaidError):
    """A sign may not have this row in a face."""

    def __init__(self, sign):
        self.sign = sign


class BadJoint(LaidError):
    """A string is no written joint row."""

    def __init__(self, text):
        self.text = text


class BadBook(LaidError):
    """A field of a book has no such value, or is none of its fields."""

    def __init__(self, field):
        self.field = field


class BadLaying(LaidError):
    """A step of a laying is none of the steps that are possible there."""

    def __init__(self, step):
        self.step = step


class NoSuchNumber(LaidError):
    """Nothing has this number."""

    def __init__(self, number):
        self.number = number


class NoSign(LaidError):
    """No sign has this origin."""

    def __init__(self, origin):
        self.origin = origin


class BadCommand(LaidError):
    """A line is no command, or one that cannot be done."""

    def __init__(self, line):
        self.line = line
