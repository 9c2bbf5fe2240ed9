"""The land of a keeper: its pieces, and the rows in them (points [59] to [61] and [69] to [71])."""

from crosskeep.data.keys import is_within, key_in, rows_in
from crosskeep.data.parts import write_rows
from crosskeep.keeper.pieces import AWAY, LEAVING, OWN, cut_at, first_pieces


class Land:
    """The pieces of a cell, and the rows in those that are own or leaving."""

    def __init__(self, cell, ranges):
        self.cell = cell
        self.pieces = first_pieces(cell, ranges)
        self.rows = {}

    def hints_for(self, keys):
        """Return a tuple of the pieces (start, end, cell, epoch) that have one of the keys and are not own."""
        return tuple([
            (piece.start, piece.end, piece.cell, piece.epoch) for piece in self.pieces
            if piece.state != OWN and any([key_in(key, piece.start, piece.end) for key in keys])
        ])

    def owns_some_of(self, start, end):
        """Return True if an own piece meets the range, otherwise False."""
        return any([piece.state == OWN and _meets(piece, start, end) for piece in self.pieces])

    def send_off(self, start, end, target):
        """Let all own pieces within the range leave to a cell; return what they bring there."""
        brought = []
        for piece in self._cut_out(start, end):
            if piece.state == OWN:
                piece.state = LEAVING
                piece.epoch += 1
                piece.cell = target
                brought.append((piece.start, piece.end, piece.epoch, rows_in(self.rows, piece.start, piece.end)))
        return tuple(brought)

    def take_in(self, brought):
        """Own what another cell sent off."""
        for start, end, epoch, pairs in brought:
            for piece in self._cut_out(start, end):
                piece.state = OWN
                piece.epoch = epoch
                piece.cell = self.cell
            self._lose_rows(start, end)
            write_rows(self.rows, pairs)

    def let_go(self, target, brought):
        """Have no more what the target took in, but for parts that came back already."""
        for start, end, epoch, _ in brought:
            for piece in self.pieces:
                # A part that came back has a greater epoch now.
                if piece.state == LEAVING and piece.epoch == epoch and is_within(piece.start, piece.end, start, end):
                    piece.state = AWAY
                    piece.cell = target
                    self._lose_rows(piece.start, piece.end)

    def _cut_out(self, start, end):
        """Cut the pieces at the bounds of a range; return a list of those within it."""
        cut_at(self.pieces, start)
        cut_at(self.pieces, end)
        return [piece for piece in self.pieces if is_within(piece.start, piece.end, start, end)]

    def _lose_rows(self, start, end):
        gone = rows_in(self.rows, start, end)
        for key, _ in gone:
            del self.rows[key]


def _meets(piece, start, end):
    high = max(piece.start, start)
    return (piece.end is None or high < piece.end) and (end is None or high < end)
