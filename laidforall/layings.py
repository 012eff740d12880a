"""Layings: how a galley is broken into lines and columns, and what that costs."""

from laidforall.errors import BadLaying
from laidforall.steps import JOINT_TIE, Steps, gap_in, indent_of, natural_width, price_of_line

START = (0, 0, 0, False)


def line_width(galley, start, end):
    """Return the natural width of a line."""
    return natural_width(galley.pieces[start:end], indent_of(galley, start))


def _ends_block(galley, end):
    """Tell whether a line that ends here is the last one of its block."""
    return galley.block_at(end - 1)[2] == end


def line_gap(galley, book, start, end):
    """Return the gap of a line."""
    return gap_in(book, line_width(galley, start, end), _ends_block(galley, end))


def line_cost(galley, book, start, end):
    """Return the cost of a line."""
    width = line_width(galley, start, end)
    has_joint = galley.pieces[end - 1][1][0] == JOINT_TIE
    return price_of_line(book, width, _ends_block(galley, end), has_joint)


def moves_of(galley, book, state):
    """Return the list of the moves (step, cost, next state) of a state, in order."""
    return Steps(galley, book).moves(state)


def final_cost(galley, book, state):
    """Return the final cost of a final state."""
    return Steps(galley, book).final_cost(state)


def _taken_moves(steps, laying):
    """Return the list of the moves of a laying; raise BadLaying if it is none."""
    state = START
    found = []
    for index, step in enumerate(laying):
        taken = [move for move in steps.moves(state) if move[0] == step]
        if not taken:
            raise BadLaying(index)
        found.append(taken[0])
        state = taken[0][2]
    if not steps.is_final(state):
        raise BadLaying(len(laying))
    return found


def states_of(galley, book, laying):
    """Return the list of the states of a laying, from the first to the final one."""
    return [START] + [move[2] for move in _taken_moves(Steps(galley, book), laying)]


def cost_of(galley, book, laying):
    """Return the cost of a laying."""
    steps = Steps(galley, book)
    moves = _taken_moves(steps, laying)
    last = moves[-1][2] if moves else START
    return sum([move[1] for move in moves]) + steps.final_cost(last)


def every_laying(galley, book):
    """Yield all layings, in order."""
    steps = Steps(galley, book)
    # Each entry is a pair of the steps up to a state and that state; the last
    # entry comes first in the order of the layings.
    waiting = [((), START)]
    while waiting:
        laying, state = waiting.pop()
        if steps.is_final(state):
            yield laying
        moves = steps.moves(state)
        moves.reverse()
        waiting.extend([(laying + (move[0],), move[2]) for move in moves])
