"""Verdicts about all tellings of a family."""

from laidforall.agreeing import DoubleFronts
from laidforall.fronts import Fronts
from laidforall.layings import START
from laidforall.numbering import Best
from laidforall.presses import NEW_BLOCK
from laidforall.promises import first_breaking


class Verdict:
    """Whether all tellings keep a promise."""

    def __bool__(self):
        return isinstance(self, Kept)


class Kept(Verdict):
    """They do; the field table lists the pairs (case, front) of all tellings."""

    def __init__(self, table):
        self.table = list(table)

    def __bool__(self):
        return True


class Broken(Verdict):
    """A telling does not, and a best laying of it breaks the promise."""

    def __init__(self, telling, laying):
        self.telling = telling
        self.laying = laying

    def __bool__(self):
        return False


class _Search:
    """All pairs of the case of the last block and the front of tellings, by their length.

    The argument reader has the methods of DoubleFronts. The attribute pairs
    lists the pairs that were found; each was reached by a read from another
    one.
    """

    def __init__(self, reader):
        self.pairs = []
        self._reader = reader
        self._sources = {}

    def first_telling(self, is_wanted):
        """Return a shortest telling whose case and front are wanted, or None if there is none."""
        for case, shape in self._reader.all_starts():
            pair = (case, self._reader.start(case, shape))
            if self._is_new(pair, (None, (NEW_BLOCK, case, shape))) and is_wanted(pair):
                return self._telling(pair)
        at = 0
        while at < len(self.pairs):
            case, front = self.pairs[at]
            for read in self._reader.reads_behind(case):
                pair = (read[1], self._reader.read(case, front, read))
                if self._is_new(pair, (self.pairs[at], read)) and is_wanted(pair):
                    return self._telling(pair)
            at += 1
        return None

    def _is_new(self, pair, source):
        """Note a pair with its source; tell whether it is new."""
        if pair in self._sources:
            return False
        self._sources[pair] = source
        self.pairs.append(pair)
        return True

    def _telling(self, pair):
        """Return the telling that led to a pair."""
        reads = []
        while pair is not None:
            pair, read = self._sources[pair]
            reads.append(read)
        reads.reverse()
        telling = []
        for border, case, shape in reads:
            if border == NEW_BLOCK:
                telling.append((case, (shape,)))
            else:
                telling[-1] = (case, telling[-1][1] + (shape,))
        return tuple(telling)


def judge(family, book, promise):
    """Return the verdict whether all tellings of a family keep a promise."""
    fronts = Fronts(family, book, promise)
    search = _Search(fronts)
    telling = search.first_telling(lambda pair: fronts.breaks(pair[0], pair[1]))
    if telling is None:
        return Kept(search.pairs)
    return Broken(telling, first_breaking(family.galley_of(telling), book, promise))


def is_closed(family, book, promise, table):
    """Tell whether a list of pairs (case, front) is closed."""
    fronts = Fronts(family, book, promise)
    held = {pair: True for pair in table}
    for case, shape in fronts.all_starts():
        if (case, fronts.start(case, shape)) not in held:
            return False
    for case, front in held:
        if fronts.breaks(case, front):
            return False
        for read in fronts.reads_behind(case):
            if (read[1], fronts.read(case, front, read)) not in held:
                return False
    return True


def _odd_laying(one, other):
    """Return a best laying of the one that is none of the other, or None."""
    known = {}
    waiting = [((), START, START)]
    while waiting:
        laying, state, other_state = waiting.pop()
        theirs = {step: later for step, later in other.ways(other_state)}
        for step, later in one.ways(state):
            longer = laying + (step,)
            if step not in theirs:
                return longer + one.rest_from(later)
            pair = (later, theirs[step])
            if pair not in known:
                known[pair] = True
                waiting.append((longer, later, theirs[step]))
    return None


def _telling_book(family, book):
    """Return a book that gives all tellings the same best layings, without what makes no difference."""
    keep = book.keep if any([case[3] for case in family.cases]) else 0
    has_joints = any([len(shape) > 1 for case in family.cases for shape in case[6]])
    joint = book.joint if has_joints else 0
    return book.changed(joint=joint, keep=keep, wait=0, columns=1, gutter=1, full=False)


def compare_books(family, first, second):
    """Return (telling, laying) for which two books differ, or None if they agree."""
    one_book = _telling_book(family, first)
    other_book = _telling_book(family, second)
    if one_book == other_book:
        return None
    doubles = DoubleFronts(family, one_book, other_book)
    telling = _Search(doubles).first_telling(lambda pair: doubles.differs(pair[1]))
    if telling is None:
        return None
    galley = family.galley_of(telling)
    one = Best(galley, first)
    other = Best(galley, second)
    laying = _odd_laying(one, other)
    return telling, _odd_laying(other, one) if laying is None else laying
