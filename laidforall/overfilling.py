"""Whether a word can be too wide for its lines, in some tree of a grammar without ref elements.

The text of an element is set in the lines of its container: the block element,
note or figure that it is or stands in. A measure is a triple (widths, hyphen,
first): the widths of the letters in the element, the width of the hyphen in
its container, and what the first line of the container has room for. A pick is
a pair (number of a slot, number of a choice), and a slot a pair (whether it is
about the container, property).
"""

from laidforall.grammars import Grammar
from laidforall.passages import HYPHEN, sign_width
from laidforall.questions import Goal, choices_for
from laidforall.scripts import BLOCK_ROLES, REF, SPAN, role_at
from laidforall.styles import style_of
from laidforall.syllables import overflow
from laidforall.walking import Walk

INSERT_ROLES = ("note", "figure")

SPAN_ROLES = (SPAN,)

WIDENING = ("face", "size", "wide")

INDENT = "indent"


def _grammar_without(grammar, roles, closed):
    """Return the grammar without the kinds of some roles, and with nothing in those of other ones."""
    kept = [kind for kind in grammar if grammar[kind][0] not in roles]
    rows = []
    for kind in kept:
        role, inner = grammar[kind]
        rows.append((kind, role, () if role in closed else tuple([other for other in inner if other in kept])))
    return Grammar(grammar.root, rows)


def _kinds_of(grammar, roles):
    """Return the list of the kinds with one of some roles."""
    return [kind for kind in grammar if grammar[kind][0] in roles]


def container_of(grammar, tree, place):
    """Return the place of the container of the element at a place."""
    while role_at(grammar, tree, place) in (SPAN, REF):
        place = place[:-1]
    return place


class Scales:
    """The measures of a setting, and which words overflow with them."""

    def __init__(self, setting, letters):
        self.setting = setting
        self._letters = letters
        self._words = {}

    def word(self, measure):
        """Return the overflow with a measure, or None."""
        if measure not in self._words:
            self._words[measure] = self._found_word(measure)
        return self._words[measure]

    def _found_word(self, measure):
        """Find the overflow with a measure."""
        widths, hyphen, first = measure
        for other, word in self._words.items():
            if word is None and _is_narrower(measure, other):
                return None
        weight = {letter: width for letter, width in zip(self._letters, widths)}
        room = self.setting.book.room
        return overflow(self.setting.joints, self._letters, weight, hyphen=hyphen, room=room, first=first)

    def measure(self, style, outer, indent):
        """Return the measure for the styles of an element and its container, with an indent."""
        faces = self.setting.faces
        widths = tuple([sign_width(faces, style, letter) for letter in self._letters])
        return widths, sign_width(faces, outer, HYPHEN), self.setting.book.room - indent

    def widest(self, styles, outers, indent):
        """Return the measure that is as wide as any of some styles together."""
        measures = [self.measure(style, styles[0], indent) for style in styles]
        others = [self.measure(styles[0], outer, indent) for outer in outers]
        letters = [measure[0] for measure in measures]
        widths = [max(told) for told in zip(*letters)]
        return tuple(widths), max([measure[1] for measure in others]), others[0][2]


def _is_narrower(measure, other):
    """Tell whether each word that overflows with a measure does so with another one."""
    if measure[1] > other[1] or measure[2] < other[2]:
        return False
    return all([width <= most for width, most in zip(measure[0], other[0])])


class Spread:
    """A search for an element of some roles whose measure has an overflow.

    If there are outer roles, its container is another element, of one of them.
    """

    def __init__(self, scales, grammar, roles, outer_roles):
        self._scales = scales
        self._grammar = grammar
        self._wanted = _kinds_of(grammar, roles)
        self._containers = _kinds_of(grammar, outer_roles)
        self._has_outer = outer_roles != ()
        self._slots = [(False, name) for name in WIDENING]
        if self._has_outer:
            self._slots.extend([(True, name) for name in WIDENING])
        if BLOCK_ROLES in (roles, outer_roles):
            self._slots.append((self._has_outer, INDENT))
        sheet = scales.setting.sheet
        self._choices = [_greatest_first(choices_for(sheet, name)) for _, name in self._slots]
        self._clashes = []

    def search(self, picks=()):
        """Return (tree, place) of an element for some picks, or None."""
        if self._scales.word(self._bound(picks)) is None or not self._can_hold(picks):
            return None
        shown = self._shown(picks)
        if shown is None:
            self._clashes.append(self._least_clash(picks))
            return None
        if self._scales.word(self.measure_of(shown)) is not None:
            return shown
        if len(picks) < len(self._slots):
            for number in range(len(self._choices[len(picks)])):
                found = self.search(picks + ((len(picks), number),))
                if found is not None:
                    return found
        return None

    def _can_hold(self, picks):
        """Tell whether no picks that cannot hold together are among some picks."""
        return not any([all([pick in picks for pick in clash]) for clash in self._clashes])

    def _shown(self, picks):
        """Return (tree, place) of an element at which some picks hold together, or None."""
        if self._has_outer and not self._containers:
            return None
        chosen = ([], [])
        for at, number in picks:
            is_outer, _ = self._slots[at]
            chosen[1 if is_outer else 0].append(self._choices[at][number])
        goal = Goal(self._grammar, chosen[0], self._wanted, chosen[1], self._containers)
        if not goal.can_be_shown():
            return None
        walk = Walk(self._grammar, goal)
        return walk.found()

    def _least_clash(self, picks):
        """Return those of some picks that cannot hold together without the other ones either."""
        clash = picks
        for pick in picks:
            fewer = tuple([other for other in clash if other != pick])
            if self._shown(fewer) is None:
                clash = fewer
        return clash

    def measure_of(self, shown):
        """Return the measure of the element of a pair (tree, place)."""
        setting = self._scales.setting
        tree, place = shown
        outer = style_of(setting.sheet, tree, container_of(setting.grammar, tree, place))
        indent = outer[4] if self._slots[-1][1] == INDENT else 0
        return self._scales.measure(style_of(setting.sheet, tree, place), outer, indent)

    def _bound(self, picks):
        """Return a measure that is as wide as those of all elements with some picks."""
        values = {slot: [choice.value for choice in choices] for slot, choices in zip(self._slots, self._choices)}
        for at, number in picks:
            values[self._slots[at]] = [self._choices[at][number].value]
        styles = _styles_with(values, False)
        outers = _styles_with(values, True) if self._has_outer else styles
        return self._scales.widest(styles, outers, max(values.get((self._has_outer, INDENT), [0])))


def _greatest_first(choices):
    """Return the list of some choices, those of the greatest values first."""
    ordered = sorted([(-choice.value, at) for at, choice in enumerate(choices)])
    return [choices[at] for _, at in ordered]


def _styles_with(values, is_outer):
    """Return the widest style in each face, as far as styles count for widths."""
    found = []
    for face in values[(is_outer, WIDENING[0])]:
        size = max(values[(is_outer, WIDENING[1])])
        wide = max(values[(is_outer, WIDENING[2])])
        found.append((face, size, wide))
    return found


def overfull_place(setting, letters):
    """Return (tree, place, word) where a word overflows, or None.

    The tree has no texts, and the word is to be the text of the element at
    the place.
    """
    scales = Scales(setting, letters)
    whole = _grammar_without(setting.grammar, (REF,), ())
    flat = _grammar_without(setting.grammar, (REF,), INSERT_ROLES)
    for grammar, roles, outer_roles in (
            (whole, BLOCK_ROLES, ()), (whole, INSERT_ROLES, ()),
            (flat, SPAN_ROLES, BLOCK_ROLES), (whole, SPAN_ROLES, INSERT_ROLES)):
        spread = Spread(scales, grammar, roles, outer_roles)
        shown = spread.search()
        if shown is not None:
            tree, place = shown
            return tree, place, scales.word(spread.measure_of(shown))
    return None
