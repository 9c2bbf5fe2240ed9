"""Point [52]: the tally."""

import unittest
from random import Random

from crosskeep.ledger.tally import Tally
from crosskeep.voting.votes import choice_of
from nodes import FIRST, batch

A, B, C = batch("a"), batch("b"), batch("c")


def fields(tally):
    return (tally.first_members, list(tally.row), list(tally.votes), [tally.votes_of(slot) for slot in range(6)],
            [tally.members_of(slot) for slot in range(1, len(tally.row) + 2)])


class Tallies(unittest.TestCase):
    def test_at_first(self):
        self.assertEqual(fields(Tally((1, 3))), ((1, 3), [], [], [[]] * 6, [(1, 3)]))

    def test_a_slot_is_chosen(self):
        tally = Tally(FIRST)
        self.assertEqual(tally.add(1, 0, (1, 0), A), [])
        self.assertEqual(tally.add(1, 0, (1, 0), A), [])
        self.assertEqual(tally.add(1, 4, (1, 0), A), [])
        self.assertEqual(tally.add(1, 1, (2, 0), A), [])
        self.assertEqual(tally.row, [])
        self.assertEqual(tally.add(1, 2, (2, 0), A), [A])
        self.assertEqual(tally.row, [A])
        self.assertEqual(tally.add(1, 0, (2, 0), A), [])
        self.assertEqual(tally.row, [A])
        self.assertEqual(tally.votes, [(1, 0, (1, 0), A), (1, 0, (1, 0), A), (1, 4, (1, 0), A), (1, 1, (2, 0), A),
                                       (1, 2, (2, 0), A), (1, 0, (2, 0), A)])
        self.assertEqual(tally.votes_of(1), [vote[1:] for vote in tally.votes])
        self.assertEqual(tally.votes_of(2), [])

    def test_several_slots_at_once(self):
        tally = Tally((0,))
        for slot, entry in ((4, C), (3, A), (2, B)):
            self.assertEqual(tally.add(slot, 0, (1, 0), entry), [])
        self.assertEqual(tally.row, [])
        self.assertEqual(tally.add(1, 0, (1, 0), A), [A, B, A, C])
        self.assertEqual(tally.row, [A, B, A, C])

    def test_a_gap_ends_the_row(self):
        tally = Tally((0,))
        for slot in (2, 4):
            tally.add(slot, 0, (1, 0), B)
        self.assertEqual(tally.add(1, 0, (1, 0), A), [A, B])
        self.assertEqual(tally.add(3, 0, (1, 0), A), [A, B])
        self.assertEqual(tally.row, [A, B, A, B])

    def test_members_are_told_by_entries_below(self):
        tally = Tally(FIRST)
        for index in (3, 4):
            self.assertEqual(tally.add(2, index, (1, 3), B), [])
        self.assertEqual(tally.add(3, 5, (1, 5), C), [])
        tally.add(1, 0, (1, 0), ("members", (3, 4)))
        self.assertEqual(tally.members_of(1), FIRST)
        self.assertEqual(tally.add(1, 1, (1, 0), ("members", (3, 4))), [("members", (3, 4)), B])
        self.assertEqual([tally.members_of(slot) for slot in (1, 2, 3)], [FIRST, (3, 4), (3, 4)])
        self.assertEqual(tally.add(3, 3, (1, 5), C), [])
        self.assertEqual(tally.add(3, 4, (1, 5), C), [C])

    def test_votes_of_others_do_not_count(self):
        tally = Tally((0, 1))
        for index in (2, 3, 4):
            tally.add(1, index, (1, 2), A)
        self.assertEqual(tally.row, [])
        tally.add(1, 0, (1, 0), B)
        self.assertEqual(tally.add(1, 1, (1, 0), B), [B])

    def test_any_order_gives_one_row(self):
        random = Random(52)
        votes = [(1, index, (1, 0), ("members", (1, 2, 3))) for index in (0, 1)]
        votes += [(2, index, (number, 2), A) for index in (2, 3) for number in (1, 2)]
        votes += [(3, index, (4, 1), ("members", (4,))) for index in (1, 3)] + [(4, 4, (1, 4), C)]
        row = [("members", (1, 2, 3)), A, ("members", (4,)), C]
        for _ in range(60):
            random.shuffle(votes)
            tally = Tally(FIRST)
            told = []
            for vote in votes:
                before = list(tally.row)
                new = tally.add(*vote)
                self.assertEqual(tally.row, before + new)
                told.extend(new)
            self.assertEqual((told, tally.row, tally.votes), (row, row, votes))
            for slot in range(1, 5):
                self.assertEqual(choice_of(tally.members_of(slot), tally.votes_of(slot)), row[slot - 1])

    def test_lists_that_are_returned_are_new(self):
        tally = Tally((0,))
        tally.add(1, 0, (1, 0), A).append("x")
        tally.votes_of(1).append("x")
        tally.votes_of(2).append("x")
        self.assertEqual((tally.row, tally.votes_of(1), tally.votes_of(2)), ([A], [(0, (1, 0), A)], []))

    def test_forks_change_apart(self):
        tally = Tally((0,))
        tally.add(1, 0, (1, 0), A)
        tally.add(3, 0, (1, 0), C)
        twin = tally.fork()
        self.assertIsInstance(twin, Tally)
        before = fields(tally)
        self.assertEqual(fields(twin), before)
        self.assertEqual(twin.add(2, 0, (1, 0), ("members", (0, 1))), [("members", (0, 1))])
        twin.add(3, 1, (1, 0), C)
        self.assertEqual(fields(tally), before)
        self.assertEqual(tally.add(2, 0, (1, 0), B), [B, C])
        self.assertEqual(twin.row, [A, ("members", (0, 1)), C])


if __name__ == "__main__":
    unittest.main()
