"""Promises, and the best layings that break them."""

from laidforall.layings import START, states_of
from laidforall.numbering import Best
from laidforall.steps import Steps

LOOSE = "loose"

KEEP = "keep"

ORPHAN = "orphan"

WIDOW = "widow"

EMPTY = "empty"

FITS = "fits"


def _breaks(steps, promise, state, step, later):
    """Tell whether the step from a state to a later one does what a promise forbids."""
    name = promise[0]
    end, figures = step
    _, width, _, _, is_first, is_last = steps.line_of(state[0], end)
    if name == LOOSE:
        return not is_last and steps.book.room - width > promise[1]
    if name == FITS:
        return width > steps.book.room or later[1] > steps.book.height
    # The other promises speak of lines that begin a column, but not the first one.
    if figures is None or state[0] == 0:
        return False
    if name == KEEP:
        return steps.is_behind_keep(state)
    if name == ORPHAN:
        return state[3]
    if name == WIDOW:
        return is_last and not is_first
    return steps.free_height(state) > promise[1]


def broken_at(galley, book, laying, promise):
    """Return the index of the step at which a laying breaks a promise, or None."""
    states = states_of(galley, book, laying)
    steps = Steps(galley, book)
    for index, step in enumerate(laying):
        if _breaks(steps, promise, states[index], step, states[index + 1]):
            return index
    return None


def _best_states(best):
    """Return the list of all states of the best layings."""
    known = {START: True}
    waiting = [START]
    while waiting:
        for _, later in best.ways(waiting.pop()):
            if later not in known:
                known[later] = True
                waiting.append(later)
    return list(known)


def _breaking_states(best, promise):
    """Return a dict that tells for each state of the best layings whether one breaks behind it."""
    found = {}
    # With more pieces done a state comes later, and so it is judged before.
    for state in sorted(_best_states(best), reverse=True):
        found[state] = False
        for step, later in best.ways(state):
            if found[later] or _breaks(best.steps, promise, state, step, later):
                found[state] = True
    return found


def first_breaking(galley, book, promise):
    """Return the first best laying that breaks a promise, or None."""
    best = Best(galley, book)
    breaking = _breaking_states(best, promise)
    if not breaking[START]:
        return None
    laying = []
    state = START
    is_broken = False
    while not best.steps.is_final(state):
        for step, later in best.ways(state):
            breaks = _breaks(best.steps, promise, state, step, later)
            if is_broken or breaks or breaking[later]:
                break
        is_broken = is_broken or breaks
        laying.append(step)
        state = later
    return tuple(laying)
