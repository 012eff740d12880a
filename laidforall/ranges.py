"""Ranges of trees: roots with children of some kinds and marks, and some tokens as texts."""

from laidforall.errors import Strange
from laidforall.faces import BLANK
from laidforall.families import Family
from laidforall.siblings import Siblings, case_of


class Range:
    """The trees with some pairs (kind, mark) and tokens, in a setting.

    The attribute family is the family of their galleys.
    """

    def __init__(self, setting, pairs, tokens):
        self.setting = setting.copy()
        self.pairs = list(pairs)
        self.tokens = list(tokens)
        self._pairs = tuple(pairs)
        self._tokens = tuple(tokens)
        siblings = Siblings(self.setting, self._pairs)
        cases = [self._case(siblings, number) for number in range(len(siblings.spots))]
        marks = [(way[0], case) for way, case in zip(siblings.spots, cases)]
        merged = siblings.merged(marks)
        self._first = tuple([merged[number] for number in siblings.starts])
        # One way of each class stands for all of them.
        chosen = [merged.index(case) for case in range(max(merged) + 1)]
        self._owners = tuple([siblings.spots[number][0] for number in chosen])
        self._later = tuple([
            tuple([merged[other] for other in siblings.later[number]]) for number in chosen
        ])
        self.family = Family([cases[number] for number in chosen], self._first, self._later)

    def told_pairs(self):
        """Return the list of the pairs, as they were passed."""
        return list(self._pairs)

    def told_words(self):
        """Return the list of the tokens, as they were passed."""
        return list(self._tokens)

    def _case(self, siblings, number):
        """Return the case for the way with a number in which a child can occur."""
        setting = self.setting
        kind = self._pairs[siblings.spots[number][0]][0]
        style = siblings.style(setting.sheet, number)
        return case_of(setting, setting.grammar[kind][0], style, self._tokens)

    def tree_of(self, telling):
        """Return the tree of the range for a telling of the family."""
        children = []
        for case, shapes in telling:
            kind, mark = self._pairs[self._owners[case]]
            text = " ".join([self._tokens[shape] for shape in shapes])
            children.append((kind, mark, (text,)))
        return self.setting.grammar.root, "", tuple(children)

    def telling_of(self, tree):
        """Return the telling of a tree of the range; raise Strange(()) if it is none."""
        kind, mark, children = tree
        if kind != self.setting.grammar.root or mark != "" or not children:
            raise Strange(())
        telling = []
        allowed = self._first
        for child in children:
            index = self._pair_of(child)
            shapes = self._shapes_of(child)
            if index is None or shapes is None:
                raise Strange(())
            telling.append((allowed[index], shapes))
            allowed = self._later[allowed[index]]
        return tuple(telling)

    def _pair_of(self, child):
        """Return the index of the pair of a child of the root, or None."""
        if isinstance(child, str) or child[:2] not in self._pairs:
            return None
        return self._pairs.index(child[:2])

    def _shapes_of(self, child):
        """Return the indexes of the tokens of a child of the root, or None."""
        if isinstance(child, str) or len(child[2]) != 1 or not isinstance(child[2][0], str):
            return None
        words = child[2][0].split(BLANK)
        if not all([word in self._tokens for word in words]):
            return None
        return tuple([self._tokens.index(word) for word in words])
