"""A walk through all situations of the elements of the trees of a grammar.

A slot is a place for a next element, as a tuple (parent, inside, child,
behind, above): the kind of the parent ("" for the root), the masks of the
beginnings that an element there may match because of what stands around it,
because of its parent and because of its elder sibling, and what the parent
hands down (None for the root). What can follow hangs on the slot alone. An
element in a slot opens a slot among its own children and one behind it.
So each tree that is met grows by one element at a time, and the first one
that shows something has the fewest elements.

The walk is made for a question: an object with the attributes reaching,
ends (for each kind, the mask of the whole patterns that matter there) and
wanted (the kinds at which it may be answered), and the methods shown (the
answer that an element gives, or None) and handed (what it hands down).
"""

from laidforall.patterns import BEHIND, CHILD, INSIDE, LINKS
from laidforall.reaching import Prospects, kinds_below


class Walk:
    """The walk for a question. The attribute found maps each answer to its step.

    A step is an element that was put into a slot: (step before, whether it is
    a child of the element of that step or its next sibling, kind, mark).
    """

    def __init__(self, grammar, question):
        self.found = {}
        self._question = question
        self._reaching = question.reaching
        self._prospects = Prospects(grammar, question.reaching, question.ends)
        self._inner = {kind: grammar[kind][1] for kind in grammar}
        self._inner[""] = (grammar.root,)
        self._letters = {kind: question.reaching.letters(kind) for kind in grammar}
        self._leading = _leading_kinds(grammar, question.wanted)
        self._ends = 0
        for kind in grammar:
            self._ends |= question.ends[kind]
        self._steps = []
        self._slots = []
        self._known = {}
        self._moot_masks = {}
        self._leads = {}

    def look(self, answer=None):
        """Walk until this answer is found, or through all slots."""
        self._open(("", self._reaching.firsts, 0, 0, None), -1, True)
        at = 0
        while at < len(self._slots) and (answer is None or answer not in self.found):
            self._fill(at)
            at += 1

    def _fill(self, at):
        """Put each element into a slot that makes a difference there."""
        parent, inside, child, behind, _ = self._slots[at][0]
        allowed = inside | child | behind
        tried = {}
        for kind in self._inner[parent]:
            for mark, passed in self._letters[kind]:
                matched = passed & allowed
                if (kind, matched) not in tried:
                    tried[(kind, matched)] = True
                    self._put(at, kind, mark, matched)

    def _put(self, at, kind, mark, matched):
        """Put an element into a slot: note its answer and open the slots it leads to."""
        slot, before, is_child = self._slots[at]
        above = slot[4]
        number = len(self._steps)
        self._steps.append((before, is_child, kind, mark))
        answer = self._question.shown(kind, matched, above)
        is_new = answer is not None and answer not in self.found
        if is_new:
            self.found[answer] = number
        if self._leading[kind]:
            inner = self._inner_slot(slot, kind, matched)
            is_new = self._open(inner, number, True) or is_new
        if slot[0] != "":
            is_new = self._open(self._next_slot(slot, matched), number, False) or is_new
        if not is_new:
            self._steps.pop()

    def _open(self, slot, number, is_child):
        """Note a slot behind a step; tell whether it is new."""
        if slot in self._known:
            return False
        self._known[slot] = True
        self._slots.append((slot, number, is_child))
        return True

    def _inner_slot(self, slot, kind, matched):
        """Return the slot of the first child of an element in a slot."""
        inside, child, _ = self._led(matched)
        told = self._question.handed(matched, slot[4])
        return self._plain_slot((kind, slot[1] | inside, child, 0, told))

    def _next_slot(self, slot, matched):
        """Return the slot behind an element in a slot."""
        behind = self._led(matched)[2]
        return self._plain_slot((slot[0], slot[1], slot[2], behind, slot[4]))

    def _led(self, matched):
        """Return what matched beginnings allow, for each link."""
        if matched not in self._leads:
            self._leads[matched] = tuple([self._reaching.leads(link, matched) for link in LINKS])
        return self._leads[matched]

    def _plain_slot(self, slot):
        """Return a slot without the beginnings that make no difference in it."""
        parent, inside, child, behind, above = slot
        inside = inside & self._prospects.below[parent]
        moot = self._moot(parent, inside)
        inside = inside & ~moot
        child = child & self._prospects.among[parent] & ~moot & ~inside
        behind = behind & self._prospects.among[parent] & ~moot & ~inside & ~child
        return parent, inside, child, behind, above

    def _moot(self, parent, inside):
        """Return the mask of the beginnings that lead to nothing new in a slot.

        All longer ones are allowed there anyhow, or lead to nothing themselves.
        """
        key = (parent, inside)
        if key not in self._moot_masks:
            after = self._reaching.after
            open_ends = self._prospects.below[parent] & ~inside
            moot = 0
            for number in range(len(self._reaching.tests) - 1, -1, -1):
                longer = after[INSIDE][number] | after[CHILD][number] | after[BEHIND][number]
                if not self._ends >> number & 1 and not longer & open_ends & ~moot:
                    moot |= 1 << number
            self._moot_masks[key] = moot
        return self._moot_masks[key]

    def shown_by(self, answer):
        """Return (tree, place) for an answer that was found: its last element gives it."""
        steps = []
        number = self.found[answer]
        while number >= 0:
            steps.append(self._steps[number])
            number = self._steps[number][0]
        return _tree_of(steps), _place_of(steps)


def _leading_kinds(grammar, wanted):
    """Return a dict that tells for each kind whether a wanted kind may stand below it."""
    below = kinds_below(grammar)
    return {kind: any([inner in wanted for inner in below[kind]]) for kind in grammar}


def _tree_of(steps):
    """Return the tree of a path of steps, the last one first."""
    forest = ()
    is_inside = False
    for _, is_child, kind, mark in steps:
        if is_inside:
            forest = ((kind, mark, forest),)
        else:
            forest = ((kind, mark, ()),) + forest
        is_inside = is_child
    return forest[0]


def _place_of(steps):
    """Return the place of the last element of a path of steps, the last one first."""
    place = []
    index = 0
    for step in steps:
        if step[1]:
            place.append(index)
            index = 0
        else:
            index += 1
    # The root is a child of no element, so it has no index.
    place.pop()
    place.reverse()
    return tuple(place)
