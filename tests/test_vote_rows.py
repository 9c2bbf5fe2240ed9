"""Point [106]: rows of votes."""

import unittest
from random import Random

from crosskeep.audit.rows import row_of_votes
from crosskeep.ledger.tally import Tally
from worlds import ROUGH, Walk

A, B, C = [("batch", ((name,),)) for name in "abc"]
FIRST = (0, 1, 2)


def votes_for(slot, entry, *indexes, ballot=(1, 0)):
    return [(slot, index, ballot, entry) for index in indexes]


class Rows(unittest.TestCase):
    def check(self, votes, row, slot=None, members=FIRST):
        for told in (votes, votes[::-1], sorted(votes, key=repr), votes + votes):
            before = list(told)
            self.assertEqual(row_of_votes(members, told), (row, slot))
            self.assertEqual(told, before)

    def test_no_votes(self):
        self.check([], [])

    def test_slot_by_slot(self):
        votes = votes_for(1, A, 0, 1) + votes_for(2, B, 1, 2) + votes_for(3, C, 0, 1, 2)
        self.check(votes, [A, B, C])
        self.check(votes[:4], [A, B])
        self.check(votes_for(1, A, 0), [], members=(0, 1))
        self.check(votes_for(1, A, 0), [A], members=(0,))
        self.check(votes_for(1, A, 0, 5), [A], members=(0, 5, 6))

    def test_a_slot_that_chooses_nothing_ends_the_row(self):
        above = votes_for(3, C, 0, 1, 2)
        self.check(votes_for(1, A, 0, 1) + votes_for(2, B, 1) + above, [A])
        self.check(votes_for(1, A, 0, 1) + above, [A])
        self.check(votes_for(1, A, 0) + votes_for(1, A, 1, ballot=(2, 1)) + above, [])
        self.check(above, [])

    def test_votes_of_others_than_the_members(self):
        self.check(votes_for(1, A, 0, 3, 4), [])
        self.check(votes_for(1, A, 0, 3, 4) + votes_for(1, B, 1, 2, ballot=(2, 1)), [B])
        # What others voted is not lawful, but does not count.
        self.check(votes_for(1, A, 0, 1) + votes_for(1, B, 3, 4), [A])

    def test_members_that_entries_below_tell(self):
        told = ("members", (3, 4))
        votes = votes_for(1, told, 0, 1)
        self.check(votes + votes_for(2, A, 0, 1, 2), [told])
        self.check(votes + votes_for(2, A, 3), [told])
        self.check(votes + votes_for(2, A, 3, 4), [told, A])
        self.check(votes + votes_for(2, A, 3, 4) + votes_for(3, B, 3, 4) + votes_for(4, C, 0, 1), [told, A, B])
        again = votes_for(2, ("members", (0,)), 3, 4)
        self.check(votes + again + votes_for(3, A, 0), [told, ("members", (0,)), A])

    def test_votes_that_are_not_lawful(self):
        bad = votes_for(1, A, 0) + votes_for(1, B, 1)
        self.check(bad, [], 1)
        self.check(bad + votes_for(2, A, 0, 1), [], 1)
        self.check(votes_for(1, A, 0, 1) + [(2,) + vote[1:] for vote in bad], [A], 2)
        # Chosen with one ballot, and another entry with a greater one.
        self.check(votes_for(1, A, 0, 1) + votes_for(1, B, 1, 2, ballot=(2, 1)), [], 1)
        self.check(votes_for(1, A, 0) + votes_for(1, B, 1, ballot=(2, 1)), [])
        self.check(votes_for(1, A, 0, 1) + votes_for(1, B, 2, ballot=(2, 1)), [], 1)

    def test_unlawful_votes_above_a_slot_that_chooses_nothing(self):
        bad = votes_for(2, A, 0) + votes_for(2, B, 1)
        self.check(votes_for(1, A, 0) + bad, [])
        self.check(bad, [])

    def test_lawful_for_the_members_of_the_slot(self):
        votes = votes_for(1, ("members", (3, 4)), 0, 1) + votes_for(2, A, 0) + votes_for(2, B, 1)
        self.check(votes, [("members", (3, 4))])
        self.check(votes + votes_for(2, C, 3, 4, ballot=(2, 2)), [("members", (3, 4)), C])

    def test_rows_of_tallies(self):
        for seed in range(40):
            walk = Walk(Random(seed), kind=False)
            for _ in range(250):
                walk.step(ROUGH)
            for tally in walk.world.onlooker.tallies:
                votes = list(tally.votes)
                walk.random.shuffle(votes)
                self.assertEqual(row_of_votes(tally.first_members, votes), (tally.row, None))

    def test_what_is_returned_is_new(self):
        tally = Tally((0,))
        tally.add(1, 0, (1, 0), A)
        row_of_votes((0,), tally.votes)[0].clear()
        self.assertEqual(row_of_votes((0,), tally.votes), ([A], None))


if __name__ == "__main__":
    unittest.main()
