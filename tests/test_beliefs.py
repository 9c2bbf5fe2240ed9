"""Point [76]: what clients believe of the ranges of cells, and how they learn."""

import unittest
from random import Random

from crosskeep.clients.beliefs import cell_of, first_beliefs, learned, places_of

RANGES = (("", 1), ("g", 2), ("m", 1), ("m5", 3))
FIRST = [("", "g", 1, 1), ("g", "m", 2, 1), ("m", "m5", 1, 1), ("m5", None, 3, 1)]
KEYS = ["0", "a", "fz", "g", "g0", "h", "kz", "l", "lzzzzzzz", "m", "m4z", "m5", "m50", "q", "zz"]


class Beliefs(unittest.TestCase):
    def test_at_first(self):
        self.assertEqual(first_beliefs(RANGES), FIRST)
        self.assertEqual(first_beliefs((("", 4),)), [("", None, 4, 1)])
        self.assertEqual(first_beliefs((("", 2), ("a", 2))), [("", "a", 2, 1), ("a", None, 2, 1)])

    def test_cell_of(self):
        cells = [cell_of(FIRST, key) for key in KEYS]
        self.assertEqual(cells, [1, 1, 1, 2, 2, 2, 2, 2, 2, 1, 1, 3, 3, 3, 3])

    def test_places(self):
        self.assertEqual(places_of(FIRST, ["z", "a", "h", "a"]), (("z", 3), ("a", 1), ("h", 2), ("a", 1)))
        self.assertEqual(places_of(FIRST, ("m", "m5")), (("m", 1), ("m5", 3)))
        self.assertEqual(places_of(FIRST, []), ())


class Learned(unittest.TestCase):
    def test_example_of_the_document(self):
        self.assertEqual(learned(first_beliefs((("", 1), ("m", 2))), ("c", "p", 3, 2)),
                         [("", "c", 1, 1), ("c", "m", 3, 2), ("m", "p", 3, 2), ("p", None, 2, 1)])

    def test_within_one_row(self):
        self.assertEqual(learned(FIRST, ("h", "k", 3, 2)),
                         [FIRST[0], ("g", "h", 2, 1), ("h", "k", 3, 2), ("k", "m", 2, 1)] + FIRST[2:])

    def test_just_one_row(self):
        self.assertEqual(learned(FIRST, ("g", "m", 3, 2)), [FIRST[0], ("g", "m", 3, 2)] + FIRST[2:])

    def test_from_and_to_a_bound_of_a_row(self):
        self.assertEqual(learned(FIRST, ("g", "h", 3, 2)),
                         [FIRST[0], ("g", "h", 3, 2), ("h", "m", 2, 1)] + FIRST[2:])
        self.assertEqual(learned(FIRST, ("k", "m", 3, 2)),
                         [FIRST[0], ("g", "k", 2, 1), ("k", "m", 3, 2)] + FIRST[2:])

    def test_across_several_rows(self):
        self.assertEqual(learned(FIRST, ("c", "q", 4, 7)), [
            ("", "c", 1, 1), ("c", "g", 4, 7), ("g", "m", 4, 7), ("m", "m5", 4, 7), ("m5", "q", 4, 7),
            ("q", None, 3, 1)])

    def test_without_an_end(self):
        self.assertEqual(learned(FIRST, ("q", None, 1, 2)), FIRST[:3] + [("m5", "q", 3, 1), ("q", None, 1, 2)])
        self.assertEqual(learned(FIRST, ("m", None, 2, 2)), FIRST[:2] + [("m", "m5", 2, 2), ("m5", None, 2, 2)])
        self.assertEqual(learned(FIRST, ("", None, 2, 2)), [row[:2] + (2, 2) for row in FIRST])

    def test_from_the_start(self):
        self.assertEqual(learned(FIRST, ("", "c", 2, 2)), [("", "c", 2, 2), ("c", "g", 1, 1)] + FIRST[1:])

    def test_epochs(self):
        beliefs = [("", "g", 1, 4), ("g", "m", 2, 5), ("m", None, 3, 6)]
        self.assertEqual(learned(beliefs, ("", None, 4, 5)), [("", "g", 4, 5), ("g", "m", 2, 5), ("m", None, 3, 6)])
        self.assertEqual(learned(beliefs, ("", None, 4, 4)), beliefs)
        self.assertEqual(learned(beliefs, ("", None, 4, 7)), [row[:2] + (4, 7) for row in beliefs])

    def test_rows_are_cut_also_where_nothing_is_learned(self):
        self.assertEqual(learned(FIRST, ("h", "m50", 1, 1)), [
            FIRST[0], ("g", "h", 2, 1), ("h", "m", 2, 1), FIRST[2], ("m5", "m50", 3, 1), ("m50", None, 3, 1)])

    def test_rows_are_never_joined(self):
        beliefs = learned(learned(FIRST, ("h", "k", 3, 2)), ("g", "m", 2, 3))
        self.assertEqual(beliefs, [FIRST[0], ("g", "h", 2, 3), ("h", "k", 2, 3), ("k", "m", 2, 3)] + FIRST[2:])

    def test_the_list_stays(self):
        beliefs = list(FIRST)
        for hint in (("h", "k", 3, 2), ("h", "k", 3, 1), ("", None, 3, 2), ("", None, 3, 0)):
            told = learned(beliefs, hint)
            told.append("more")
            told[0] = None
            self.assertEqual(beliefs, FIRST)

    def test_key_by_key(self):
        random = Random(76)
        bounds = ["", "b", "g", "g0", "k", "m", "m4", "m5", "m50", "x"]
        for _ in range(300):
            beliefs = first_beliefs(RANGES)
            known = {key: (cell_of(beliefs, key), 1) for key in KEYS}
            for _ in range(random.randrange(8)):
                start, end = sorted(random.sample(bounds, 2))
                hint = (start, random.choice((end, end, None)), random.randint(1, 4), random.randint(1, 5))
                beliefs = learned(beliefs, hint)
                for key in KEYS:
                    if start <= key and (hint[1] is None or key < hint[1]) and known[key][1] < hint[3]:
                        known[key] = hint[2:]
            for key in KEYS:
                rows = [row for row in beliefs if row[0] <= key and (row[1] is None or key < row[1])]
                self.assertEqual([row[2:] for row in rows], [known[key]])
                self.assertEqual(cell_of(beliefs, key), known[key][0])
            self.assertEqual((beliefs[0][0], beliefs[-1][1]), ("", None))
            self.assertEqual([row[1] for row in beliefs[:-1]], [row[0] for row in beliefs[1:]])
            self.assertTrue(all(start < end for start, end, _, _ in beliefs[:-1]))


if __name__ == "__main__":
    unittest.main()
