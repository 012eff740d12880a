"""How much dearer one spot may be than another one and still be of use.

The margin of a spot that is held against a spot that is lost is what going on
from the held one can cost at most more than from the lost one, whatever
shapes and blocks follow and however the lost one would go on. A spot that is
dearer than another one by more than that is never part of a best laying. All
margins are found at once, as the least numbers that agree with one another
over each read.
"""

from laidforall.grounds import is_end

# Less than any margin.
NO_MARGIN = -1000000


def margin_tables(ground):
    """Return the dict from each place to its margins, by the numbers of the held and the lost spots."""
    tables = {}
    for place in ground.numbers:
        many = len(ground.numbers[place])
        # Nothing more need follow behind the end of a block.
        start = 0 if is_end(place) else NO_MARGIN
        tables[place] = [[start] * many for _ in range(many)]
    links = ground.numbered_links()
    stale = {place: True for place in tables}
    while stale:
        changed = {}
        for place, later, ways in links:
            if later in stale or later in changed:
                if _raise_margins(tables[place], tables[later], ways):
                    changed[place] = True
        stale = changed
    return tables


def _raise_margins(table, behind, ways):
    """Raise margins to what some ways ask for; tell whether any was too small."""
    is_raised = False
    for held, own in enumerate(ways):
        row = table[held]
        # What it costs at most to stand in for each later spot.
        rows = [[cost + margin for margin in behind[later]] for later, cost in own]
        least = rows[0] if len(rows) == 1 else [min(column) for column in zip(*rows)]
        for lost, others in enumerate(ways):
            wanted = max([least[later] - cost for later, cost in others])
            if wanted > row[lost]:
                row[lost] = wanted
                is_raised = True
    return is_raised
