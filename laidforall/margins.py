"""How much dearer an open line may be than another one and still be of use.

The margin of a line that is held against a line that is lost is what going on
from the held one can cost at most more than from the lost one, whatever
shapes and blocks follow and however the lost one would go on. A line that is
dearer than another one by more than that is never part of a best laying. All
margins are found at once, as the least numbers that agree with one another
over each shape that may follow.
"""


class Margins:
    """The margins of all plain lines that the tellings of a press can have."""

    def __init__(self, press):
        self._press = press
        many = len(press.family.cases)
        self._numbers = [{} for _ in range(many)]
        self._follow_all()
        self._ways = self._numbered_ways()
        self._table = [self._margins_at_the_end(case) for case in range(many)]
        self._settle()

    def _follow_all(self):
        """Give a number to each line that a last block of each case can have."""
        waiting = []
        for case, shape in self._press.all_starts():
            waiting.extend([(case, entry[0]) for entry in self._press.started(case, shape)])
        while waiting:
            case, line = waiting.pop()
            if line not in self._numbers[case]:
                self._numbers[case][line] = len(self._numbers[case])
                for border, later, shape in self._press.reads_behind(case):
                    told = self._press.read(border, case, later, shape, line)
                    waiting.extend([(later, entry[0]) for entry in told])

    def _numbered_ways(self):
        """Return the list of (case, later case, ways) for all that may follow.

        The ways hold, for each line by its number, a list of the pairs of the
        number of a later line and the cost to come to it.
        """
        found = []
        for case, numbers in enumerate(self._numbers):
            for border, later, shape in self._press.reads_behind(case):
                ways = []
                for line in numbers:
                    told = self._press.read(border, case, later, shape, line)
                    ways.append([(self._numbers[later][entry[0]], entry[1]) for entry in told])
                found.append((case, later, ways))
        return found

    def _margins_at_the_end(self, case):
        """Return the margins of the lines of a case if nothing follows."""
        costs = [self._press.last_line(line[3])[0] for line in self._numbers[case]]
        return [[held - lost for lost in costs] for held in costs]

    def _settle(self):
        """Raise the margins until they agree."""
        changed = {case: True for case in range(len(self._table))}
        while changed:
            stale = changed
            changed = {}
            for case, later, ways in self._ways:
                if later in stale and self._raise(self._table[case], self._table[later], ways):
                    changed[case] = True

    def _raise(self, table, behind, ways):
        """Raise the margins to what some ways ask for; tell whether any was too small."""
        is_raised = False
        for held, own in enumerate(ways):
            # What it costs at most to stand in for each later line.
            least = [min([cost + behind[line][lost] for line, cost in own])
                     for lost in range(len(behind))]
            row = table[held]
            for lost, others in enumerate(ways):
                wanted = max([least[line] - cost for line, cost in others])
                if wanted > row[lost]:
                    row[lost] = wanted
                    is_raised = True
        return is_raised

    def all_lines(self):
        """Return the pairs (case, line) of all plain lines of the tellings."""
        return [(case, line) for case, numbers in enumerate(self._numbers) for line in numbers]

    def useful(self, case, entries):
        """Return those of a list of entries (line, cost, ..) that are not too dear beside the others."""
        numbers = self._numbers[case]
        if not all([entry[0] in numbers for entry in entries]):
            return entries
        told = [(numbers[entry[0]], entry[1]) for entry in entries]
        table = self._table[case]
        found = []
        for entry in entries:
            lost = numbers[entry[0]]
            for held, cost in told:
                if entry[1] > cost + table[held][lost]:
                    break
            else:
                found.append(entry)
        return found
