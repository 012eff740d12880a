"""Blame: on which facts the position of a sign rests.

A set of facts is a mask, with the bit 1 << index for each fact.
"""

from laidforall.errors import NoSign, TooLarge
from laidforall.facts import facts_of, keep_facts
from laidforall.placing import placed_signs

MOST_FACTS = 6


def stands_as(setting, tree, origin, kept):
    """Return the placed sign with an origin if only the facts of a tuple are kept."""
    # Hyphens come and go with the facts; each other sign is there with any of them.
    if origin[-1] != 0:
        raise NoSign(origin)
    held = setting.copy()
    held.sheet, told = keep_facts(setting, tree, kept)
    for sign in placed_signs(held, told):
        if sign[0] == origin:
            return sign
    raise NoSign(origin)


class Grounds:
    """The sets of facts with which a sign is placed otherwise than with all of them.

    The attribute facts lists the facts, and many is their number.
    """

    def __init__(self, setting, tree, origin):
        self.facts = facts_of(setting, tree)
        self.many = len(self.facts)
        whole = stands_as(setting, tree, origin, tuple(self.facts))
        if self.many > MOST_FACTS:
            raise TooLarge(self.many)
        self._moving = []
        for mask in range(1 << self.many):
            if stands_as(setting, tree, origin, self.kept(mask)) != whole:
                self._moving.append(mask)

    def indexes(self, mask):
        """Return the ascending tuple of the indexes of the facts of a mask."""
        return tuple([index for index in range(self.many) if mask >> index & 1])

    def kept(self, mask):
        """Return the tuple of the facts of a mask."""
        return tuple([self.facts[index] for index in self.indexes(mask)])

    def mask_of(self, kept):
        """Return the mask of a tuple of facts."""
        return sum([1 << index for index in range(self.many) if self.facts[index] in kept])

    def moving_with(self, mask):
        """Return a mask that contains a mask and moves the sign, or None if there is none."""
        for other in self._moving:
            if other & mask == mask:
                return other
        return None


def supports(setting, tree, origin, kept):
    """Tell whether a tuple of facts supports the sign with an origin."""
    return mover(setting, tree, origin, kept) is None


def mover(setting, tree, origin, kept):
    """Return a tuple of facts that contains a tuple and moves the sign, or None."""
    grounds = Grounds(setting, tree, origin)
    found = grounds.moving_with(grounds.mask_of(kept))
    return None if found is None else grounds.kept(found)


def least_supports(setting, tree, origin):
    """Return the list of the supports of a sign with the fewest facts, in order."""
    grounds = Grounds(setting, tree, origin)
    found = []
    for mask in range(1 << grounds.many):
        if grounds.moving_with(mask) is None:
            indexes = grounds.indexes(mask)
            found.append((len(indexes), indexes, grounds.kept(mask)))
    least = min([entry[0] for entry in found])
    return [entry[2] for entry in sorted(found) if entry[0] == least]
