"""Questions about joint rows and all words over some letters.

A spot is a gap of a word, or one of its two ends, as far as joint rows can
look: a pair (left, right) of the letters on each side, at most three. With
fewer than three letters, the word begins or ends there.
"""

SIDE = 3


def _words(letters, length):
    """Return the words of a length over some letters, in alphabetical order."""
    found = [""]
    for _ in range(length):
        found = [word + letter for word in found for letter in letters]
    return found


def _telling_words(letters):
    """Return the words in which all that joint rows tell apart occurs, the shortest first."""
    found = []
    for length in range(1, 2 * SIDE + 1):
        found.extend(_words(letters, length))
    return found


def parting_word(first, second, letters):
    """Return (word, gap) for the first word in which two lists differ, or None."""
    for word in _telling_words(letters):
        for gap in range(1, len(word)):
            if first.is_joint(word, gap) != second.is_joint(word, gap):
                return word, gap
    return None


def idle_joints(joints, letters):
    """Return the list of the indexes of the rows that decide no gap of any word."""
    deciding = {}
    for word in _telling_words(letters):
        for gap in range(1, len(word)):
            deciding[joints.decider(word, gap)] = True
    return [index for index in range(len(joints)) if index not in deciding]


def _is_border(joints, spot):
    """Tell whether a syllable ends, or begins, at a spot."""
    left, right = spot
    return left == "" or right == "" or joints.is_joint(left + right, len(left))


def _spots_behind(spot, letters):
    """Return the spots that may come one letter behind a spot that is no end."""
    left, right = spot
    passed = (left + right[0])[-SIDE:]
    found = [(passed, right[1:])]
    if len(right) == SIDE:
        found.extend([(passed, right[1:] + letter) for letter in letters])
    return found


def _all_spots(letters):
    """Return all spots of all words."""
    sides = [""]
    for length in range(1, SIDE + 1):
        sides.extend(_words(letters, length))
    return [(left, right) for left in sides for right in sides if left + right != ""]


class Stretches:
    """The heaviest stretches from each spot to the next border.

    The attribute heaviest maps spots to pairs (weight, next spot); all_told
    tells whether each spot has one.
    """

    def __init__(self, joints, letters, weight):
        self._weight = weight
        spots = _all_spots(letters)
        self._behind = {spot: _spots_behind(spot, letters) for spot in spots if spot[1] != ""}
        self._borders = {spot: _is_border(joints, spot) for spot in spots}
        self.heaviest = {}
        self._fill()
        self.all_told = len(self.heaviest) == len(self._behind)

    def _fill(self):
        """Find the stretch of each spot behind which all spots have theirs or are borders."""
        ahead = {spot: [] for spot in self._borders}
        missing = {}
        for spot in self._behind:
            inner = [other for other in self._behind[spot] if not self._borders[other]]
            missing[spot] = len(inner)
            for other in inner:
                ahead[other].append(spot)
        ready = [spot for spot in missing if missing[spot] == 0]
        while ready:
            spot = ready.pop()
            self.heaviest[spot] = self._heaviest_from(spot)
            if not self._borders[spot]:
                for other in ahead[spot]:
                    missing[other] -= 1
                    if missing[other] == 0:
                        ready.append(other)

    def _heaviest_from(self, spot):
        """Return the pair (weight, next spot) of the heaviest stretch from a spot."""
        found = None
        for other in self._behind[spot]:
            weight = self._weight[spot[1][0]]
            if not self._borders[other]:
                weight += self.heaviest[other][0]
            if found is None or weight > found[0]:
                found = (weight, other)
        return found

    def best(self):
        """Return (weight, syllable, word) for the heaviest stretch between two borders."""
        start = None
        for spot in self._behind:
            if self._borders[spot]:
                if start is None or self.heaviest[spot][0] > self.heaviest[start][0]:
                    start = spot
        syllable = start[1][0]
        end = self.heaviest[start][1]
        while not self._borders[end]:
            syllable = syllable + end[1][0]
            end = self.heaviest[end][1]
        return self.heaviest[start][0], syllable, start[0] + syllable + end[1]


def heaviest_syllable(joints, letters, weight):
    """Return (weight, syllable, word) for a heaviest syllable, or None if there is none."""
    stretches = Stretches(joints, letters, weight)
    # A spot without a heaviest stretch leads in a circle without a joint.
    if not stretches.all_told:
        return None
    return stretches.best()


class Setter:
    """What setting a word in lines comes to, letter by letter.

    A situation is a tuple (left, right, only, last): a spot, the width of the
    line if it is the first one, and the least width of the line if it is a
    later one; a width is None if there is no such line.
    """

    def __init__(self, joints, weight, hyphen, room, first):
        self._joints = joints
        self._weight = weight
        self._hyphen = hyphen
        self._room = room
        self._first = first
        self._known = {}

    def passed(self, situation):
        """Return the pair (only, last) of the widths behind the next letter."""
        left, right, only, last = situation
        if left != "" and self._is_joint(left, right) and self._may_end(only, last):
            last = 0
        width = self._weight[right[0]]
        only = self._widened(only, width, self._first)
        return only, self._widened(last, width, self._room)

    def _is_joint(self, left, right):
        """Tell whether there is a joint at a spot."""
        spot = (left, right)
        if spot not in self._known:
            self._known[spot] = self._joints.is_joint(left + right, len(left))
        return self._known[spot]

    def _may_end(self, only, last):
        """Tell whether a line with one of these widths may end with a hyphen."""
        if only is not None and only + self._hyphen <= self._first:
            return True
        return last is not None and last + self._hyphen <= self._room

    def _widened(self, line, width, most):
        """Return the width of a line with a further letter, or None if it is too wide."""
        if line is None or line + width > most:
            return None
        return line + width

    def can_end(self, situation):
        """Tell whether the word can be set if it ends here."""
        left, right, only, last = situation
        while right != "":
            only, last = self.passed((left, right, only, last))
            left = (left + right[0])[-SIDE:]
            right = right[1:]
        return only is not None or last is not None

    def with_letter(self, situation, letter):
        """Return the situation with a further letter of the word."""
        left, right, only, last = situation
        if len(right) < SIDE:
            return left, right + letter, only, last
        only, last = self.passed(situation)
        return (left + right[0])[-SIDE:], right[1:] + letter, only, last


def overflow(joints, letters, weight, *, hyphen, room, first):
    """Return the first of the shortest words that cannot be set, or None."""
    setter = Setter(joints, weight, hyphen, room, first)
    start = ("", "", 0, None)
    known = {start: True}
    queue = [(start, "")]
    at = 0
    while at < len(queue):
        situation, word = queue[at]
        at += 1
        for letter in letters:
            longer = setter.with_letter(situation, letter)
            if longer not in known:
                if not setter.can_end(longer):
                    return word + letter
                known[longer] = True
                queue.append((longer, word + letter))
    return None
