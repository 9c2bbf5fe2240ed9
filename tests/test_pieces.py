"""Points [59] and [60]: the pieces of a keeper."""

import unittest

from crosskeep.keeper.pieces import AWAY, LEAVING, OWN, Piece, cut_at, first_pieces, piece_at

RANGES = (("", 1), ("g", 2), ("m", 1), ("m5", 3))


def rows_of(pieces):
    return [piece.as_row() for piece in pieces]


class Pieces(unittest.TestCase):
    def test_states(self):
        self.assertEqual((OWN, LEAVING, AWAY), ("own", "leaving", "away"))

    def test_fields_and_row(self):
        piece = Piece("a", None, LEAVING, 3, 2)
        self.assertEqual((piece.start, piece.end, piece.state, piece.epoch, piece.cell), ("a", None, "leaving", 3, 2))
        self.assertEqual(piece.as_row(), ("a", None, "leaving", 3, 2))


class FirstPieces(unittest.TestCase):
    def test_own_and_away(self):
        wanted = [("", "g", "own", 1, 1), ("g", "m", "away", 1, 2), ("m", "m5", "own", 1, 1)]
        self.assertEqual(rows_of(first_pieces(1, RANGES)), wanted + [("m5", None, "away", 1, 3)])
        self.assertEqual([piece.state for piece in first_pieces(2, RANGES)], ["away", "own", "away", "away"])

    def test_a_cell_without_ranges(self):
        self.assertEqual([piece.state for piece in first_pieces(4, RANGES)], ["away"] * 4)

    def test_one_range(self):
        self.assertEqual(rows_of(first_pieces(1, (("", 1),))), [("", None, "own", 1, 1)])

    def test_ranges_of_one_cell_are_not_joined(self):
        pieces = first_pieces(1, (("", 1), ("a", 1)))
        self.assertEqual(rows_of(pieces), [("", "a", "own", 1, 1), ("a", None, "own", 1, 1)])

    def test_each_list_is_new(self):
        first = first_pieces(1, RANGES)
        cut_at(first, "a")
        self.assertEqual(len(first_pieces(1, RANGES)), 4)


class PieceAt(unittest.TestCase):
    def test_bounds(self):
        pieces = first_pieces(1, RANGES)
        cases = [("0", 0), ("fzzzzzzz", 0), ("g", 1), ("g0", 1), ("lz", 1), ("m", 2), ("m4zz", 2), ("m5", 3)]
        for key, place in cases + [("zzzz", 3)]:
            self.assertIs(piece_at(pieces, key), pieces[place], key)


class CutAt(unittest.TestCase):
    def setUp(self):
        self.pieces = [Piece("", "g", OWN, 4, 1), Piece("g", "m", LEAVING, 7, 3), Piece("m", None, AWAY, 2, 2)]
        self.before = rows_of(self.pieces)

    def test_within(self):
        self.assertIsNone(cut_at(self.pieces, "h"))
        wanted = [self.before[0], ("g", "h", "leaving", 7, 3), ("h", "m", "leaving", 7, 3), self.before[2]]
        self.assertEqual(rows_of(self.pieces), wanted)

    def test_the_first_and_the_last_piece(self):
        cut_at(self.pieces, "0")
        cut_at(self.pieces, "zz")
        self.assertEqual(rows_of(self.pieces)[:2], [("", "0", "own", 4, 1), ("0", "g", "own", 4, 1)])
        self.assertEqual(rows_of(self.pieces)[-2:], [("m", "zz", "away", 2, 2), ("zz", None, "away", 2, 2)])

    def test_at_a_start(self):
        for key in ("g", "m"):
            self.assertIsNone(cut_at(self.pieces, key))
            self.assertEqual(rows_of(self.pieces), self.before)

    def test_nowhere(self):
        for key in ("", None):
            self.assertIsNone(cut_at(self.pieces, key))
            self.assertEqual(rows_of(self.pieces), self.before)

    def test_twice(self):
        cut_at(self.pieces, "h")
        once = rows_of(self.pieces)
        cut_at(self.pieces, "h")
        self.assertEqual(rows_of(self.pieces), once)

    def test_every_key_stays_in_one_piece_that_is_like_the_old_one(self):
        keys = ["0", "a", "fz", "g", "g0", "h", "lz", "m", "m0", "zz"]
        told = {key: piece_at(self.pieces, key).as_row()[2:] for key in keys}
        for key in ("h", "a", "m0", "g", "gz", "zz"):
            cut_at(self.pieces, key)
            self.assertEqual([piece.end for piece in self.pieces[:-1]], [piece.start for piece in self.pieces[1:]])
            self.assertEqual((self.pieces[0].start, self.pieces[-1].end), ("", None))
            self.assertEqual({key: piece_at(self.pieces, key).as_row()[2:] for key in keys}, told)
