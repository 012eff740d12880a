"""The desk: a setting and a tree, and commands that change them and ask about them."""

from laidforall.blame import least_supports
from laidforall.books import Book
from laidforall.commands import read_place, write_laying, write_place
from laidforall.composing import compose
from laidforall.describing import describe
from laidforall.errors import BadBook, BadCommand, LaidError
from laidforall.facts import ROW
from laidforall.marking import read_tree
from laidforall.names import is_name, read_number
from laidforall.numbering import Best
from laidforall.placing import placed_signs, plate_of
from laidforall.promises import EMPTY, FITS, KEEP, LOOSE, ORPHAN, WIDOW, first_breaking
from laidforall.sheets import Sheet
from laidforall.styles import PROPERTIES, reason_table, style_of
from laidforall.trees import element_at

FULL = "full"

BOUNDED = (LOOSE, EMPTY)

UNBOUNDED = (KEEP, ORPHAN, WIDOW, FITS)


def _put_tree(desk, text):
    """Do the command tree."""
    tree = read_tree(text)
    desk.setting.grammar.check(tree)
    return desk.turn_to(tree, desk.setting)


def _add_row(desk, line):
    """Do the command row."""
    return desk.with_sheet(desk.setting.sheet + Sheet([line]))


def _strike(desk, word):
    """Do the command strike."""
    index = read_number(word)
    if index is None:
        return None
    desk.setting.sheet.row(index)
    return desk.with_sheet(desk.setting.sheet.without([index]))


def _book_value(field, word):
    """Return the value of a field of a book that is written so, or None."""
    number = read_number(word)
    if field != FULL or number is None:
        return number
    return number == 1 if number <= 1 else None


def _change_book(desk, text):
    """Do the command book."""
    field, _, word = text.partition(" ")
    value = _book_value(field, word)
    if value is None or not is_name(field):
        return None
    # A field may have the name of what a call passes besides.
    if field not in Book.FIELDS:
        raise BadBook(field)
    told = {field: value}
    setting = desk.setting.copy()
    setting.book = setting.book.changed(**told)
    return desk.turn_to(desk.tree, setting)


def _best_of(desk):
    """Return the best layings of the tree."""
    return Best(compose(desk.setting, desk.tree), desk.setting.book)


def _lay(desk, word):
    """Answer the command lay."""
    number = read_number(word)
    return None if number is None else write_laying(_best_of(desk).nth(number))


def _page(desk, word):
    """Answer the command page."""
    page = read_number(word)
    if page is None:
        return None
    plate = plate_of(placed_signs(desk.setting, desk.tree))
    return describe([sign for sign in plate if sign[0] == page], desk.setting.faces)


def _style(desk, word):
    """Answer the command style."""
    style = style_of(desk.setting.sheet, desk.tree, read_place(word))
    return [" ".join([str(value) for value in style])]


def _why(desk, text):
    """Answer the command why."""
    word, _, name = text.partition(" ")
    place = read_place(word)
    element_at(desk.tree, place)
    if name not in PROPERTIES:
        return None
    reason = reason_table(desk.setting.sheet, desk.tree)[place][name][1]
    if reason[0] == ROW:
        return [f"{ROW} {desk.setting.sheet[reason[1]]}"]
    return [reason[0]]


def _promise_of(text):
    """Return the promise that is written so, or None."""
    name, blank, word = text.partition(" ")
    if name in BOUNDED:
        number = read_number(word)
        return None if number is None else (name, number)
    return (name,) if name in UNBOUNDED and blank == "" else None


def _judge(desk, text):
    """Answer the command promise."""
    promise = _promise_of(text)
    if promise is None:
        return None
    laying = first_breaking(compose(desk.setting, desk.tree), desk.setting.book, promise)
    return ["kept"] if laying is None else ["broken"] + write_laying(laying)


def _written_fact(fact):
    """Return a fact as it is written."""
    name, told = fact
    return f"{name} {told}" if name == ROW else f"{name} {write_place(told)}"


def _blame(desk, text):
    """Answer the command blame."""
    word, _, number = text.partition(" ")
    index = read_number(number)
    if index is None:
        return None
    found = least_supports(desk.setting, desk.tree, (read_place(word), index, 0))
    return [", ".join([_written_fact(fact) for fact in facts]) if facts else "nothing" for facts in found]


def _cost(desk):
    """Answer the command cost."""
    best = _best_of(desk)
    return [f"cost {best.cost} count {best.count}"]


def _undo(desk):
    """Do the command undo."""
    return ["ok"] if desk.took_back() else ["nothing"]


# The commands with something behind the word, and those without.
LONG_COMMANDS = {
    "tree": _put_tree,
    "row": _add_row,
    "strike": _strike,
    "book": _change_book,
    "lay": _lay,
    "page": _page,
    "style": _style,
    "why": _why,
    "promise": _judge,
    "blame": _blame,
}

SHORT_COMMANDS = {
    "undo": _undo,
    "cost": _cost,
}


class Desk:
    """A setting and a tree. The attribute past lists what they were before each change."""

    def __init__(self, setting):
        self.setting = setting.copy()
        self.tree = (setting.grammar.root, "", ())
        self.past = []

    def turn_to(self, tree, setting):
        """Take another tree and another setting; return the answer."""
        # A Trial may hold these, so they are replaced and never changed.
        self.past = self.past + [(self.tree, self.setting)]
        self.tree = tree
        self.setting = setting
        return ["ok"]

    def with_sheet(self, sheet):
        """Take another sheet; return the answer."""
        setting = self.setting.copy()
        setting.sheet = sheet
        return self.turn_to(self.tree, setting)

    def took_back(self):
        """Take back the last change; tell whether there was one."""
        if not self.past:
            return False
        self.tree, self.setting = self.past[-1]
        self.past = self.past[:-1]
        return True

    def __call__(self, line):
        """Do a command; return its answer, a list of strings, or raise BadCommand."""
        return self._done(line)

    def _done(self, line):
        """Do a command; return its answer, or raise BadCommand."""
        try:
            answer = self._answer(line)
        except LaidError as wrong:
            raise BadCommand(line) from wrong
        if answer is None:
            raise BadCommand(line)
        return answer

    def _answer(self, line):
        """Do a command; return its answer, or None if the line is no command."""
        if line in SHORT_COMMANDS:
            action = SHORT_COMMANDS[line]
            return action(self)
        word, blank, text = line.partition(" ")
        if blank == "" or word not in LONG_COMMANDS:
            return None
        longer = LONG_COMMANDS[word]
        return longer(self, text)

    def run(self, lines):
        """Do some commands; return the list of their answers."""
        return [self._done(line) for line in lines]


class Held:
    """What a desk was when a trial began, and what was held before that."""

    def __init__(self, desk, below):
        self.tree = desk.tree
        self.setting = desk.setting
        self.past = desk.past
        self.below = below


class Trial:
    """A desk that will be as it was, at the end of a with."""

    def __init__(self, desk):
        self._desk = desk
        self._before = None

    def __enter__(self):
        self._before = Held(self._desk, self._before)
        return self._desk

    def __exit__(self, kind, value, trace):
        desk = self._desk
        desk.tree = self._before.tree
        desk.setting = self._before.setting
        desk.past = self._before.past
        self._before = self._before.below
