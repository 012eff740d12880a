"""A walk through all situations of the elements of the trees of a grammar.

A slot is a place for a next element, as a tuple (parent, inside, child,
behind, above): the kind of the parent ("" for the root), the masks of the
beginnings that an element there may match because of what stands around it,
because of its parent and because of its elder sibling, and what the parent
hands down. What can follow hangs on the slot alone. An element in a slot
opens a slot among its own children and one behind it. So each tree that is
met grows by one element at a time.

The walk is made for a goal (see questions.py), and goes on from the slot with
the fewest elements, those counted that are needed at least. A slot is left
out if another one is at least as good: if it has no more elements, and if more
of what is helpful, and less of what is harmful, may be matched there and has
been handed down.
"""

from heapq import heappop, heappush

from laidforall.patterns import BEHIND, CHILD, INSIDE, LINKS
from laidforall.reaching import Prospects, kinds_below


class Walk:
    """The walk for a goal.

    A step is an element that was put into a slot: (step before, whether it is
    a child of the element of that step or its next sibling, kind, mark).
    """

    def __init__(self, grammar, goal):
        self._goal = goal
        self._reaching = goal.reaching
        self._prospects = Prospects(grammar, goal.reaching, goal.ends)
        self._inner = {kind: grammar[kind][1] for kind in grammar}
        self._inner[""] = (grammar.root,)
        self._letters = {kind: goal.reaching.letters(kind) for kind in grammar}
        self._leading = _leading_kinds(grammar, goal.wanted)
        self._ends = 0
        for kind in grammar:
            self._ends |= goal.ends[kind]
        self._steps = []
        self._slots = []
        self._queue = []
        self._met = {}
        self._known = {}
        self._moot_masks = {}
        self._leads = {}

    def found(self, most=None):
        """Return (tree, place) for the goal, with at most this many elements, or None."""
        self._open(("", self._reaching.firsts, 0, 0, self._goal.above), -1, True, 0)
        while self._queue:
            size, order = heappop(self._queue)
            if most is not None and size > most:
                return None
            if self._fill(-order):
                return self._shown()
        return None

    def _fill(self, at):
        """Put the elements into a slot that make a difference there; tell whether one shows the goal."""
        parent, inside, child, behind, _ = self._slots[at][0]
        for kind in self._inner[parent]:
            for mark, matched in self._best_letters(kind, inside | child | behind):
                if self._put(at, kind, mark, matched):
                    return True
        return False

    def _best_letters(self, kind, allowed):
        """Return the pairs (mark, matched) for a kind, without those that are no better than others."""
        found = []
        graded = []
        for mark, passed in self._letters[kind]:
            exact, merit = self._graded(passed & allowed)
            if not any([exact == other and old | merit == old for other, old in graded]):
                graded.append((exact, merit))
                found.append((mark, passed & allowed))
        return found

    def _graded(self, mask):
        """Return (what must be the same in a mask that is as good, what must be in it)."""
        goal = self._goal
        exact = mask & goal.helpful & goal.harmful
        return exact, mask & goal.helpful | goal.harmful & ~mask

    def _put(self, at, kind, mark, matched):
        """Put an element into a slot and open the slots it leads to; tell whether it shows the goal."""
        slot, before, is_child, size = self._slots[at]
        above = slot[4]
        number = len(self._steps)
        self._steps.append((before, is_child, kind, mark))
        if self._goal.is_shown(kind, matched, above):
            return True
        is_new = False
        told = self._goal.handed(kind, matched, above)
        if self._leading[kind] and self._goal.is_open(kind, told):
            is_new = self._open(self._inner_slot(slot, kind, matched, told), number, True, size + 1)
        if slot[0] != "":
            is_new = self._open(self._next_slot(slot, matched), number, False, size + 1) or is_new
        if not is_new:
            self._steps.pop()
        return False

    def _open(self, slot, number, is_child, size):
        """Note a slot behind a step unless an earlier one is as good; tell whether it is noted."""
        # Most slots come again and again, so this is asked ahead of the grades.
        if self._met.get(slot, size + 1) <= size:
            return False
        self._met[slot] = size
        parent, inside, child, behind, above = slot
        graded = [self._graded(mask) for mask in (inside, inside | child, inside | child | behind)]
        key = (parent, graded[0][0], graded[1][0], graded[2][0])
        width = len(self._reaching.tests)
        merit = above
        for _, part in graded:
            merit = merit << width | part
        known = self._known.get(key, [])
        for old, old_size in known:
            if old | merit == old and old_size <= size:
                return False
        better = [pair for pair in known if pair[0] | merit != merit or pair[1] < size]
        self._known[key] = better + [(merit, size)]
        self._add_slot(slot, number, is_child, size)
        return True

    def _add_slot(self, slot, number, is_child, size):
        """Add a slot to those from which the walk goes on."""
        _, inside, child, behind, above = slot
        left = self._goal.least_left(inside | child | behind, above)
        # Of slots with as many elements, the one that was opened last comes first.
        heappush(self._queue, (size + left, -len(self._slots)))
        self._slots.append((slot, number, is_child, size))

    def _inner_slot(self, slot, kind, matched, told):
        """Return the slot of the first child of an element in a slot; told is handed down to it."""
        inside, child, _ = self._led(matched)
        return self._plain_slot((kind, slot[1] | inside, child, 0, told))

    def _next_slot(self, slot, matched):
        """Return the slot behind an element in a slot."""
        behind = self._led(matched)[2]
        return self._plain_slot((slot[0], slot[1], slot[2], behind, slot[4]))

    def _led(self, matched):
        """Return what matched beginnings allow, for each link."""
        if matched not in self._leads:
            self._leads[matched] = tuple([self._reaching.leads(link, matched) for link in LINKS])
        return self._leads[matched]

    def _plain_slot(self, slot):
        """Return a slot without the beginnings that make no difference in it."""
        parent, inside, child, behind, above = slot
        inside = inside & self._prospects.below[parent]
        moot = self._moot(parent, inside)
        inside = inside & ~moot
        child = child & self._prospects.among[parent] & ~moot & ~inside
        behind = behind & self._prospects.among[parent] & ~moot & ~inside & ~child
        return parent, inside, child, behind, above

    def _moot(self, parent, inside):
        """Return the mask of the beginnings that lead to nothing new in a slot.

        All longer ones are allowed there anyhow, or lead to nothing themselves.
        """
        key = (parent, inside)
        if key not in self._moot_masks:
            after = self._reaching.after
            open_ends = self._prospects.below[parent] & ~inside
            moot = 0
            for number in range(len(self._reaching.tests) - 1, -1, -1):
                longer = after[INSIDE][number] | after[CHILD][number] | after[BEHIND][number]
                if not self._ends >> number & 1 and not longer & open_ends & ~moot:
                    moot |= 1 << number
            self._moot_masks[key] = moot
        return self._moot_masks[key]

    def _shown(self):
        """Return (tree, place) for the last step: its element shows the goal."""
        steps = []
        number = len(self._steps) - 1
        while number >= 0:
            steps.append(self._steps[number])
            number = self._steps[number][0]
        return _tree_of(steps), _place_of(steps)


def _leading_kinds(grammar, wanted):
    """Return a dict that tells for each kind whether a wanted kind may stand below it."""
    below = kinds_below(grammar)
    return {kind: any([inner in wanted for inner in below[kind]]) for kind in grammar}


def _tree_of(steps):
    """Return the tree of a path of steps, the last one first."""
    forest = ()
    is_inside = False
    for _, is_child, kind, mark in steps:
        if is_inside:
            forest = ((kind, mark, forest),)
        else:
            forest = ((kind, mark, ()),) + forest
        is_inside = is_child
    return forest[0]


def _place_of(steps):
    """Return the place of the last element of a path of steps, the last one first."""
    place = []
    index = 0
    for step in steps:
        if step[1]:
            place.append(index)
            index = 0
        else:
            index += 1
    # The root is a child of no element, so it has no index.
    place.pop()
    place.reverse()
    return tuple(place)
