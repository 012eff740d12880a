"""Price tables: what can follow each state at the least cost, and in how many ways."""

from laidforall.layings import START
from laidforall.steps import Steps


def _reached_states(steps):
    """Return the dict from each state that some laying passes to its moves."""
    found = {}
    waiting = [START]
    while waiting:
        state = waiting.pop()
        if state not in found:
            found[state] = steps.moves(state)
            waiting.extend([move[2] for move in found[state]])
    return found


def _entry(steps, table, state, moves):
    """Return the pair (price, count) of a state whose next states are in a table."""
    if steps.is_final(state):
        return steps.final_cost(state), 1
    sums = [(cost + table[later][0], table[later][1]) for _, cost, later in moves]
    price = min([entry[0] for entry in sums])
    return price, sum([entry[1] for entry in sums if entry[0] == price])


def table_of(steps):
    """Return the right price table of all states that some laying passes."""
    moves = _reached_states(steps)
    table = {}
    # A move always does some pieces, so the states with more done come first.
    for state in sorted(moves, reverse=True):
        table[state] = _entry(steps, table, state, moves[state])
    return table


def price_table(galley, book):
    """Return the right price table of the states that some laying passes."""
    return table_of(Steps(galley, book))


def is_right(galley, book, table):
    """Tell whether a price table is right."""
    if START not in table:
        return False
    steps = Steps(galley, book)
    for state in table:
        moves = steps.moves(state)
        if not all([move[2] in table for move in moves]):
            return False
        if table[state] != _entry(steps, table, state, moves):
            return False
    return True
