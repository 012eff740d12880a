"""Families: galleys without notes and figures that are made of cases and shapes."""

from laidforall.galleys import galley_of_any_size
from laidforall.steps import BLANK_TIE, JOINT_TIE

END_TIE = ("end",)


class Family:
    """Cases (height, indent, before, keep, blank, hyphen, shapes) and which may follow which."""

    def __init__(self, cases, firsts, follows):
        self.cases = tuple(cases)
        self.firsts = tuple(firsts)
        self.follows = tuple([tuple(inner) for inner in follows])

    def galley_of(self, telling):
        """Return the galley of a telling, with any number of pieces."""
        blocks = [_block_of(self.cases[case], shapes) for case, shapes in telling]
        return galley_of_any_size(blocks)

    def every_telling(self, length):
        """Yield all tellings of a length, in ascending order."""
        yield from _tellings(self, self.firsts, length)


def _block_of(case, shapes):
    """Return the block of a case with some of its shapes."""
    height, indent, before, keep, blank, hyphen, told = case
    pieces = []
    for shape in shapes:
        pieces.extend([(width, (JOINT_TIE, hyphen), (), ()) for width in told[shape]])
        pieces[-1] = (pieces[-1][0], (BLANK_TIE, blank), (), ())
    pieces[-1] = (pieces[-1][0], END_TIE, (), ())
    return height, indent, before, keep, tuple(pieces)


def _tellings(family, allowed, length):
    """Yield the tellings of a length that begin with an allowed case, in order."""
    if length == 0:
        yield ()
    else:
        for case in sorted(allowed):
            many = len(family.cases[case][6])
            for shapes in _shape_tuples(many, length):
                follows = family.follows[case]
                left = length - len(shapes)
                for others in _tellings(family, follows, left):
                    yield ((case, shapes),) + others


def _shape_tuples(many, most):
    """Yield the tuples of at least one and at most this number of shapes, in order."""
    for shape in range(many):
        yield (shape,)
        if most > 1:
            fewer = most - 1
            for others in _shape_tuples(many, fewer):
                yield (shape,) + others
