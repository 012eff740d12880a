"""Verdicts about all tellings of a family."""

from laidforall.agreeing import DoubleFronts
from laidforall.fronts import Fronts
from laidforall.grounds import OUTSIDE
from laidforall.layings import START
from laidforall.numbering import Best
from laidforall.presses import BLANK_BORDER
from laidforall.promises import first_breaking


class Verdict:
    """Whether all tellings keep a promise."""

    def __bool__(self):
        return isinstance(self, Kept)


class Kept(Verdict):
    """They do; the field table lists the pairs (case, front) of all tellings."""

    def __init__(self, table):
        self.table = list(table)

    def __bool__(self):
        return True


class Broken(Verdict):
    """A telling does not, and a best laying of it breaks the promise."""

    def __init__(self, telling, laying):
        self.telling = telling
        self.laying = laying

    def __bool__(self):
        return False


class Search:
    """All pairs of the case of the last block and the front of tellings, by their length.

    The argument reader has the methods of Fronts, or of DoubleFronts, with
    which a telling is read. The attribute pairs lists the pairs that were found.
    """

    def __init__(self, reader):
        self.pairs = []
        self._reader = reader
        # Each pair was reached by a read from another one.
        self._sources = {}
        self._ends = {}

    def first_telling(self, is_wanted):
        """Return a shortest telling whose case and front are wanted, or None if there is none."""
        reader = self._reader
        found = self._note_all(None, OUTSIDE, reader.origin, reader.press.start_reads(), is_wanted)
        at = 0
        while found is None and at < len(self.pairs):
            pair = self.pairs[at]
            found = self._note_all(pair, pair[0], pair[1], reader.press.inner_reads(pair[0]), is_wanted)
            if found is None:
                found = self._note_blocks(pair, is_wanted)
            at += 1
        return None if found is None else self._telling(found)

    def _note_all(self, source, place, front, reads, is_wanted):
        """Note the pairs behind some reads; return the first new one that is wanted, or None."""
        for read in reads:
            pair = (read[2], self._reader.read(place, front, read))
            if pair not in self._sources:
                self._sources[pair] = (source, read)
                self.pairs.append(pair)
                if is_wanted(pair):
                    return pair
        return None

    def _note_blocks(self, pair, is_wanted):
        """Note the pairs with a further block; return the first new one that is wanted, or None."""
        case, front = pair
        end = (self._reader.press.end_of(case), self._reader.ended(case, front))
        # What may follow behind an end is the same for all pairs that come to it.
        if end in self._ends:
            return None
        self._ends[end] = True
        return self._note_all(pair, end[0], end[1], self._reader.press.block_reads(end[0]), is_wanted)

    def _telling(self, pair):
        """Return the telling that led to a pair."""
        reads = []
        while pair is not None:
            pair, read = self._sources[pair]
            reads.append(read)
        reads.reverse()
        telling = []
        for border, _, case, shape in reads:
            if border == BLANK_BORDER:
                telling[-1] = (case, telling[-1][1] + (shape,))
            else:
                telling.append((case, (shape,)))
        return tuple(telling)


def judge(family, book, promise):
    """Return the verdict whether all tellings of a family keep a promise."""
    fronts = Fronts(family, book, promise)
    search = Search(fronts)
    telling = search.first_telling(lambda pair: fronts.breaks(pair[0], pair[1]))
    if telling is None:
        return Kept(search.pairs)
    return Broken(telling, first_breaking(family.galley_of(telling), book, promise))


def is_closed(family, book, promise, table):
    """Tell whether a list of pairs (case, front) is closed."""
    fronts = Fronts(family, book, promise)
    press = fronts.press
    held = {pair: True for pair in table}
    if not _are_held(held, fronts, OUTSIDE, fronts.origin, press.start_reads()):
        return False
    ends = {}
    for case, front in table:
        if fronts.breaks(case, front) or not _are_held(held, fronts, case, front, press.inner_reads(case)):
            return False
        end = (press.end_of(case), fronts.ended(case, front))
        if end not in ends:
            ends[end] = True
            if not _are_held(held, fronts, end[0], end[1], press.block_reads(end[0])):
                return False
    return True


def _are_held(held, fronts, place, front, reads):
    """Tell whether the pairs behind some reads are all among those held."""
    return all([(read[2], fronts.read(place, front, read)) in held for read in reads])


def _odd_laying(one, other):
    """Return a best laying of the one that is none of the other, or None."""
    known = {}
    waiting = [((), START, START)]
    while waiting:
        laying, state, other_state = waiting.pop()
        theirs = {step: later for step, later in other.ways(other_state)}
        for step, later in one.ways(state):
            longer = laying + (step,)
            if step not in theirs:
                return longer + one.rest_from(later)
            pair = (later, theirs[step])
            if pair not in known:
                known[pair] = True
                waiting.append((longer, later, theirs[step]))
    return None


def compare_books(family, first, second):
    """Return (telling, laying) for which two books differ, or None if they agree."""
    doubles = DoubleFronts(family, first, second)
    if doubles.are_costs_alike():
        return None
    telling = Search(doubles).first_telling(lambda pair: doubles.differs(pair[1]))
    if telling is None:
        return None
    galley = family.galley_of(telling)
    one = Best(galley, first)
    other = Best(galley, second)
    laying = _odd_laying(one, other)
    return telling, _odd_laying(other, one) if laying is None else laying
