"""Composing: the galley and the tokens of a tree."""

from laidforall.passages import Composition
from laidforall.scripts import Script, number_texts


def compose(setting, tree, numbers=()):
    """Return the galley of a tree; raise Strange, then TooLarge."""
    return Composition(setting, tree, numbers).galley


def tokens_of(setting, tree, place, numbers=()):
    """Return the list of the tokens of a block element, note or figure at a place."""
    texts = number_texts(setting.grammar, tree, numbers)
    return Script(setting, tree, place, texts).told_tokens()
