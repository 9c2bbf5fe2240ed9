"""Point [35]: attempts."""

import unittest
from itertools import permutations

from crosskeep.voting.attempt import Attempt

PARTS = ("ballot", "entry", "members", "stage", "promised_by", "voted_by", "bound")


def fields(attempt):
    return tuple(list(told) if isinstance(told, list) else told for told in (getattr(attempt, name) for name in PARTS))


def telling(members=(0, 1, 2)):
    attempt = Attempt((2, 1), "mine", members)
    for member in members:
        attempt.hear_promise(member, None)
    return attempt


class Asking(unittest.TestCase):
    def test_at_first(self):
        attempt = Attempt((2, 1), "mine", (0, 1, 2))
        self.assertEqual(fields(attempt), ((2, 1), "mine", (0, 1, 2), "asking", [], [], None))

    def test_each_number_of_members(self):
        for many in range(1, 6):
            members = (0, 2, 3, 4, 6)[:many]
            attempt = Attempt((1, 0), "mine", members)
            for place, member in enumerate(members, 1):
                before = attempt.stage
                became = attempt.hear_promise(member, None)
                enough = 2 * place > many
                self.assertIs(became, enough and before == "asking", (many, place))
                self.assertEqual(attempt.stage, "telling" if enough else "asking", (many, place))
            self.assertEqual(attempt.promised_by, list(members[:many // 2 + 1]))
            self.assertEqual((attempt.entry, attempt.bound), ("mine", None))

    def test_promised_by_ascends(self):
        for order in permutations((0, 3, 5)):
            attempt = Attempt((1, 0), "mine", (0, 1, 3, 5, 6))
            self.assertEqual([attempt.hear_promise(member, None) for member in order], [False, False, True])
            self.assertEqual(attempt.promised_by, [0, 3, 5])

    def test_a_member_twice(self):
        attempt = Attempt((2, 1), "mine", (0, 1, 2))
        self.assertIs(attempt.hear_promise(1, None), False)
        self.assertIs(attempt.hear_promise(1, ((1, 0), "old")), False)
        self.assertEqual(fields(attempt), ((2, 1), "mine", (0, 1, 2), "asking", [1], [], None))

    def test_no_member(self):
        attempt = Attempt((2, 1), "mine", (0, 1, 2))
        for index in (3, 4, 6):
            self.assertIs(attempt.hear_promise(index, ((1, 0), "old")), False)
        self.assertEqual(fields(attempt), ((2, 1), "mine", (0, 1, 2), "asking", [], [], None))

    def test_votes_are_not_heard_yet(self):
        attempt = Attempt((2, 1), "mine", (0, 1, 2))
        self.assertEqual([attempt.hear_vote(index) for index in (0, 1, 2)], [False] * 3)
        self.assertEqual(fields(attempt), ((2, 1), "mine", (0, 1, 2), "asking", [], [], None))


class Bound(unittest.TestCase):
    def test_the_greatest_ballot_binds(self):
        told = [((1, 3), "low"), ((4, 0), "high"), ((3, 6), "middle"), None, ((4, 0), "high")]
        for order in permutations(range(5)):
            attempt = Attempt((9, 1), "mine", (0, 1, 2, 3, 4))
            heard = [told[index] for index in order[:3]]
            for index in order[:3]:
                attempt.hear_promise(index, told[index])
            bound = max([accepted for accepted in heard if accepted is not None])
            self.assertEqual((attempt.bound, attempt.entry, attempt.stage), (bound, bound[1], "telling"), order)

    def test_rounds_are_above_indexes(self):
        attempt = Attempt((12, 1), "mine", (0, 1, 2))
        attempt.hear_promise(0, ((10, 0), "late"))
        attempt.hear_promise(1, ((9, 6), "early"))
        self.assertEqual(attempt.entry, "late")

    def test_the_entry_stays_till_the_stage_is_telling(self):
        attempt = Attempt((2, 1), "mine", (0, 1, 2))
        attempt.hear_promise(0, ((1, 0), "old"))
        self.assertEqual((attempt.entry, attempt.bound, attempt.stage), ("mine", ((1, 0), "old"), "asking"))
        attempt.hear_promise(2, None)
        self.assertEqual((attempt.entry, attempt.bound, attempt.stage), ("old", ((1, 0), "old"), "telling"))

    def test_equal_ballots_do_not_bind_anew(self):
        attempt = Attempt((2, 1), "mine", (0, 1, 2))
        attempt.hear_promise(0, ((1, 0), "first"))
        attempt.hear_promise(1, ((1, 0), "second"))
        self.assertEqual(attempt.bound, ((1, 0), "first"))

    def test_entries_of_all_kinds(self):
        attempt = Attempt((5, 1), ("batch", ()), (0, 1, 2, 3, 4))
        for index, accepted in enumerate((((1, 0), "a"), ((3, 0), ("members", (0,))), ((2, 0), 7))):
            attempt.hear_promise(index, accepted)
        self.assertEqual(attempt.entry, ("members", (0,)))

    def test_promises_behind_telling(self):
        attempt = telling()
        before = fields(attempt)
        for index in range(4):
            self.assertIs(attempt.hear_promise(index, ((1, 6), "late")), False)
        self.assertEqual(fields(attempt), before)


class Telling(unittest.TestCase):
    def test_each_number_of_members(self):
        for many in range(1, 6):
            members = (0, 2, 3, 4, 6)[:many]
            attempt = telling(members)
            for place, member in enumerate(members, 1):
                before = attempt.stage
                won = attempt.hear_vote(member)
                self.assertIs(won, 2 * place > many and before == "telling", (many, place))
                self.assertEqual(attempt.stage, "won" if 2 * place > many else "telling", (many, place))
            self.assertEqual(attempt.voted_by, list(members[:many // 2 + 1]))

    def test_voted_by_ascends(self):
        for order in permutations((0, 3, 5)):
            attempt = telling((0, 1, 3, 5, 6))
            self.assertEqual([attempt.hear_vote(member) for member in order], [False, False, True])
            self.assertEqual(attempt.voted_by, [0, 3, 5])

    def test_twice_and_no_member(self):
        attempt = telling()
        self.assertEqual([attempt.hear_vote(index) for index in (2, 2, 3, 6, 2)], [False] * 5)
        self.assertEqual((attempt.stage, attempt.voted_by), ("telling", [2]))

    def test_a_member_that_did_not_promise_may_vote(self):
        attempt = telling()
        self.assertEqual(attempt.promised_by, [0, 1])
        self.assertEqual([attempt.hear_vote(2), attempt.hear_vote(0)], [False, True])

    def test_behind_won(self):
        attempt = telling()
        attempt.hear_vote(0)
        attempt.hear_vote(1)
        before = fields(attempt)
        self.assertIs(attempt.hear_vote(2), False)
        self.assertIs(attempt.hear_promise(2, ((1, 0), "old")), False)
        self.assertEqual(fields(attempt), before)
        self.assertEqual(before, ((2, 1), "mine", (0, 1, 2), "won", [0, 1], [0, 1], None))


class Forks(unittest.TestCase):
    def test_alike_at_each_stage(self):
        attempt = Attempt((2, 1), "mine", (0, 1, 2))
        for hear in (attempt.hear_promise, attempt.hear_promise, attempt.hear_vote, attempt.hear_vote):
            self.assertEqual(fields(attempt.fork()), fields(attempt))
            if hear == attempt.hear_vote:
                hear(len(attempt.voted_by))
            else:
                hear(len(attempt.promised_by), ((1, 0), "old"))
        self.assertEqual(fields(attempt.fork()), fields(attempt))
        self.assertEqual(attempt.stage, "won")
        self.assertIsInstance(attempt.fork(), Attempt)

    def test_forks_change_apart(self):
        attempt = Attempt((2, 1), "mine", (0, 1, 2))
        attempt.hear_promise(0, None)
        twin = attempt.fork()
        before = fields(attempt)
        twin.hear_promise(2, ((1, 0), "old"))
        twin.hear_vote(1)
        self.assertEqual(fields(attempt), before)
        attempt.hear_promise(1, None)
        self.assertEqual(fields(twin), ((2, 1), "old", (0, 1, 2), "telling", [0, 2], [1], ((1, 0), "old")))
        self.assertEqual(fields(attempt), ((2, 1), "mine", (0, 1, 2), "telling", [0, 1], [], None))


if __name__ == "__main__":
    unittest.main()
