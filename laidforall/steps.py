"""The lines that a galley can have with a book, and the steps that lead to them."""

BLANK_TIE = "blank"

JOINT_TIE = "joint"


def natural_width(pieces, indent):
    """Return the natural width of a line of these pieces with this indent."""
    width = indent + sum([piece[0] for piece in pieces])
    width += sum([piece[1][1] for piece in pieces[:-1] if piece[1][0] == BLANK_TIE])
    if pieces[-1][1][0] == JOINT_TIE:
        width += pieces[-1][1][1]
    return width


def indent_of(galley, start):
    """Return the indent of a line that begins with a piece."""
    index, first, _ = galley.block_at(start)
    return list(galley)[index][1] if start == first else 0


def gap_in(book, width, is_last):
    """Return the gap of a line of a width, which is the last of its block or not."""
    if is_last or width > book.room:
        return 0
    return book.room - width


def price_of_line(book, width, is_last, has_joint):
    """Return the cost of a line of a width."""
    gap = gap_in(book, width, is_last)
    cost = gap * gap + book.over * max(0, width - book.room)
    return cost + book.joint if has_joint else cost


class Steps:
    """The moves between the states of a galley as it is now, with a book.

    A line is kept as (end, width, cost, need, is_first, is_last): where it
    ends, its natural width, its cost, its need, and whether it is the first
    and the last line of its block.
    """

    def __init__(self, galley, book):
        self.book = book
        self._blocks = list(galley)
        self._all = galley.pieces
        self._owners = [galley.block_at(piece) for piece in range(len(galley))]
        self._heights = galley.figures
        self._called = [0]
        for piece in self._all:
            self._called.append(self._called[-1] + len(piece[3]))
        self._lines = {}

    def is_final(self, state):
        """Tell whether all pieces are done in a state."""
        return state[0] == len(self._all)

    def final_cost(self, state):
        """Return what the figures cost that still wait in a final state."""
        return self.book.wait * (len(self._heights) - state[2])

    def lines_from(self, start):
        """Return the list of the lines that may begin with a piece, the shortest first."""
        if start not in self._lines:
            self._lines[start] = self._found_lines(start)
        return self._lines[start]

    def _found_lines(self, start):
        """Find the lines that may begin with a piece."""
        index, first, behind = self._owners[start]
        height, indent, before, _, _ = self._blocks[index]
        inner = indent if start == first else 0
        need = height + before if start == first else height
        found = []
        for end in range(start + 1, behind + 1):
            width, tie = self._all[end - 1][0], self._all[end - 1][1]
            need += sum(self._all[end - 1][2])
            inner += width
            # Only a hyphen is left out of what all longer lines are wider than.
            if inner > self.book.room and end > start + 1:
                break
            whole = inner + tie[1] if tie[0] == JOINT_TIE else inner
            if whole <= self.book.room or end == start + 1:
                cost = price_of_line(self.book, whole, end == behind, tie[0] == JOINT_TIE)
                found.append((end, whole, cost, need, start == first, end == behind))
            if tie[0] == BLANK_TIE:
                inner += tie[1]
        return found

    def line_of(self, start, end):
        """Return the line of these pieces, or None if it may not be."""
        for line in self.lines_from(start):
            if line[0] == end:
                return line
        return None

    def moves(self, state):
        """Return the list of the moves (step, cost, next state) of a state, in order."""
        found = []
        if not self.is_final(state):
            for line in self.lines_from(state[0]):
                found.extend(self._moves_with(state, line))
        return found

    def _moves_with(self, state, line):
        """Return the moves of a state that set a line."""
        done, used, placed, _ = state
        end, _, cost, need, is_first, is_last = line
        begun = is_first and not is_last
        found = []
        if done > 0 and used + need <= self.book.height:
            found.append(((end, None), cost, (end, used + need, placed, begun)))
        waiting = self._called[done] - placed
        top = 0
        for figures in range(waiting + 1):
            if figures > 0:
                top += self._heights[placed + figures - 1]
                if top + need > self.book.height:
                    break
            price = cost
            if done > 0:
                price += self._opening_cost(state, waiting - figures, is_last and not is_first)
            found.append(((end, figures), price, (end, top + need, placed + figures, begun)))
        return found

    def _opening_cost(self, state, left, is_widow):
        """Return what it costs to begin a further column while some figures are left."""
        book = self.book
        free = self.free_height(state)
        cost = free * free + book.wait * left
        if self.is_behind_keep(state):
            cost += book.keep
        if state[3]:
            cost += book.orphan
        if is_widow:
            cost += book.widow
        return cost

    def free_height(self, state):
        """Return the free height of the last column of a state."""
        return max(0, self.book.height - state[1])

    def is_behind_keep(self, state):
        """Tell whether the last line of a state ends a block that keeps."""
        done = state[0]
        if done == 0:
            return False
        index, _, behind = self._owners[done - 1]
        return behind == done and self._blocks[index][3]
