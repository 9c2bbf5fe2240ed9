"""Pieces: the ranges that a keeper knows, with who has them (points [59] and [60])."""

from crosskeep.data.keys import with_ends

OWN = "own"
LEAVING = "leaving"
AWAY = "away"


class Piece:
    """A range with its state, its epoch and its cell."""

    def __init__(self, start, end, state, epoch, cell):
        self.start = start
        self.end = end
        self.state = state
        self.epoch = epoch
        self.cell = cell

    def as_row(self):
        """Return the tuple (start, end, state, epoch, cell)."""
        return (self.start, self.end, self.state, self.epoch, self.cell)


def first_pieces(cell, ranges):
    """Return the list of the pieces of a new keeper."""
    return [
        Piece(start, end, OWN if owner == cell else AWAY, 1, owner)
        for start, end, owner in with_ends(ranges)
    ]


def piece_at(pieces, key):
    """Return the piece that has the key."""
    return pieces[_place_of(pieces, key)]


def cut_at(pieces, key):
    """Cut the pieces at the key, which may be "" or None; this changes the list."""
    if key is None:
        return
    place = _place_of(pieces, key)
    piece = pieces[place]
    if piece.start != key:
        pieces[place:place + 1] = [
            Piece(piece.start, key, piece.state, piece.epoch, piece.cell),
            Piece(key, piece.end, piece.state, piece.epoch, piece.cell),
        ]


def _place_of(pieces, key):
    # Pieces ascend and leave no key out: the last one that begins at the key or ahead of it has it.
    return len([piece for piece in pieces if piece.start <= key]) - 1
