"""Galleys: lists of blocks of pieces, to be broken into lines and columns."""

from laidforall.errors import NoSuchNumber, TooLarge

MOST_PIECES = 40

MOST_FIGURES = 4


def _pieces_of(blocks):
    """Return the list of all pieces of some blocks."""
    return [piece for block in blocks for piece in block[4]]


def _figures_of(pieces):
    """Return the list of the heights of the figures of some pieces."""
    return [height for piece in pieces for height in piece[3]]


def _owners_of(blocks):
    """Return, for each piece, the triple (block, start, end) of its block."""
    owners = []
    for index, block in enumerate(blocks):
        start = len(owners)
        many = len(block[4])
        owners.extend([(index, start, start + many)] * many)
    return owners


def _check_sizes(blocks):
    """Raise TooLarge if some blocks have too many pieces or figures for a galley."""
    pieces = _pieces_of(blocks)
    if len(pieces) > MOST_PIECES:
        raise TooLarge(len(pieces))
    figures = _figures_of(pieces)
    if len(figures) > MOST_FIGURES:
        raise TooLarge(len(figures))


class Galley:
    """A list of blocks (height, indent, before, keep, pieces)."""

    def __init__(self, blocks=()):
        _check_sizes(blocks)
        self._blocks = list(blocks)
        self._pieces = _pieces_of(blocks)
        self._owners = _owners_of(blocks)

    def __len__(self):
        return len(self._pieces)

    def __iter__(self):
        return iter(self._blocks)

    def __eq__(self, other):
        if not isinstance(other, Galley):
            return NotImplemented
        return self._blocks == other._blocks

    def __add__(self, other):
        if not isinstance(other, Galley):
            return NotImplemented
        return Galley(self._blocks + other._blocks)

    def __iadd__(self, other):
        if not isinstance(other, Galley):
            return NotImplemented
        blocks = self._blocks + other._blocks
        _check_sizes(blocks)
        self._blocks = blocks
        self._pieces = _pieces_of(blocks)
        self._owners = _owners_of(blocks)
        return self

    @property
    def pieces(self):
        """The list of all pieces, in order."""
        return list(self._pieces)

    @property
    def figures(self):
        """The list of the heights of all figures, in the order of their calls."""
        return _figures_of(self._pieces)

    def block_at(self, piece):
        """Return the triple (block, start, end) of the block of a piece."""
        if not 0 <= piece < len(self._owners):
            raise NoSuchNumber(piece)
        return self._owners[piece]


def galley_of_any_size(blocks):
    """Return the galley of some blocks, with any number of pieces."""
    galley = Galley()
    galley._blocks = list(blocks)
    galley._pieces = _pieces_of(blocks)
    galley._owners = _owners_of(blocks)
    return galley
