"""How much dearer one spot can be than another one, whatever has been told.

The lag of a spot that is held behind a spot that is lost is what the cheapest
way to the held one costs at most more than that to the lost one, in each
telling that comes to the lost one. All lags are found at once, as the least
numbers that agree with one another over each read.
"""

from laidforall.grounds import OUTSIDE

# Less than any lag.
NOT_REACHED = -1000000

# More than any lag: of a spot that need not be reached when the lost one is.
NO_LAG = 1000000

# Lags that go on growing for so long are given up.
MOST_ROUNDS = 20


def lag_tables(ground):
    """Return the dict from each place to its lags, by the numbers of the lost and the held spots."""
    tables = {}
    for place in ground.numbers:
        many = len(ground.numbers[place])
        tables[place] = [[NOT_REACHED] * many for _ in range(many)]
    tables[OUTSIDE] = [[0]]
    links = ground.numbered_links()
    stale = {place: True for place in tables}
    rounds = 0
    while stale:
        rounds += 1
        is_late = rounds > MOST_ROUNDS
        changed = {}
        for place, later, ways in links:
            if place in stale or place in changed:
                if _raise_all_lags(tables[place], tables[later], ways, is_late):
                    changed[later] = True
        stale = changed
    return tables


def reached(lags, ways, many):
    """Return, for each of many later spots, at most how dear it is behind spots with some lags."""
    found = [NO_LAG] * many
    for held, lag in enumerate(lags):
        if lag < NO_LAG:
            for later, cost in ways[held]:
                found[later] = min(found[later], lag + cost)
    return found


def _raise_all_lags(table, behind, ways, is_late):
    """Raise the lags behind a read; tell whether any was too small."""
    is_raised = False
    for lost, own in enumerate(ways):
        # A spot lags behind itself by nothing as soon as it is reached.
        if table[lost][lost] == 0:
            told = reached(table[lost], ways, len(behind))
            if _raise_lags(behind, told, own, is_late):
                is_raised = True
    return is_raised


def _raise_lags(table, told, ways, is_late):
    """Raise the lags behind the later spots of a lost spot; tell whether any was too small."""
    is_raised = False
    for later, cost in ways:
        row = table[later]
        for held, dear in enumerate(told):
            lag = dear - cost if dear < NO_LAG else NO_LAG
            if lag > row[held]:
                row[held] = NO_LAG if is_late else lag
                is_raised = True
    return is_raised
