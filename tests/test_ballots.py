"""Points [32] and [33]: members, more than half of them, and ballots."""

import unittest
from itertools import permutations, product

from crosskeep.voting.ballots import MOST_MEMBERS, MOST_ROUND, NO_BALLOT, is_members, more_than_half, next_ballot


class Members(unittest.TestCase):
    def test_names(self):
        self.assertEqual((NO_BALLOT, MOST_ROUND, MOST_MEMBERS), ((0, 0), 9999, 5))

    def test_all_tuples_of_few(self):
        for length in range(4):
            for members in product(range(-1, 5), repeat=length):
                wanted = length > 0 and list(members) == sorted(set(members)) and members[0] >= 0 and members[-1] < 4
                self.assertIs(is_members(members, 4), wanted, members)

    def test_numbers_of_members(self):
        for length in range(8):
            self.assertIs(is_members(tuple(range(length)), 7), 1 <= length <= 5, length)
        self.assertIs(is_members((0, 1, 3, 5, 6), 7), True)
        self.assertIs(is_members((2, 3, 4, 5, 6), 7), True)

    def test_beyond_the_size(self):
        for size in range(1, 8):
            self.assertIs(is_members((size - 1,), size), True, size)
            self.assertIs(is_members((size,), size), False, size)
            self.assertIs(is_members((0, size), size), False, size)
        self.assertIs(is_members((7,), 8), False)
        self.assertIs(is_members((-1,), 7), False)
        self.assertIs(is_members((-1, 0), 7), False)

    def test_twice_or_not_ascending(self):
        for members in ((0, 0), (1, 1, 2), (0, 2, 2), (1, 0), (0, 2, 1), (2, 0, 1), (0, 1, 0)):
            self.assertIs(is_members(members, 7), False, members)


class MoreThanHalf(unittest.TestCase):
    def test_each_number_of_members(self):
        members = (0, 2, 3, 5, 6)
        for many in range(1, 6):
            for some in range(many + 1):
                self.assertIs(more_than_half(members[:many], list(members[:some])), 2 * some > many, (many, some))

    def test_no_indexes(self):
        self.assertIs(more_than_half((0,), []), False)
        self.assertIs(more_than_half((0, 1), ()), False)

    def test_some_twice_and_some_that_are_no_members(self):
        self.assertIs(more_than_half((0, 1, 2), [1, 1, 1]), False)
        self.assertIs(more_than_half((0, 1, 2), [1, 1, 2]), True)
        self.assertIs(more_than_half((0, 1, 2), [3, 4, 5, 6]), False)
        self.assertIs(more_than_half((0, 1, 2), [1, 3, 4, 5]), False)
        self.assertIs(more_than_half((0, 1, 2), [1, 3, 2, 1]), True)
        self.assertIs(more_than_half((0, 1), [0, 0, 3]), False)

    def test_lists_and_tuples_in_any_order(self):
        for indexes in permutations((4, 0, 3, 0)):
            self.assertIs(more_than_half((0, 2, 4), indexes), True)
            self.assertIs(more_than_half((0, 2, 4), list(indexes)), True)
            self.assertIs(more_than_half((0, 1, 2, 4), list(indexes)), False)

    def test_the_list_stays(self):
        indexes = [2, 0, 2]
        more_than_half((0, 1, 2), indexes)
        self.assertEqual(indexes, [2, 0, 2])


class Ballots(unittest.TestCase):
    def test_next(self):
        self.assertEqual(next_ballot(0, 0), (1, 0))
        self.assertEqual(next_ballot(0, 6), (1, 6))
        self.assertEqual(next_ballot(41, 3), (42, 3))

    def test_the_last_rounds(self):
        self.assertEqual(next_ballot(9997, 2), (9998, 2))
        self.assertEqual(next_ballot(9998, 2), (9999, 2))
        self.assertIsNone(next_ballot(9999, 2))
        self.assertIsNone(next_ballot(10000, 0))

    def test_order(self):
        ballots = [NO_BALLOT, (1, 0), (1, 1), (1, 6), (2, 0), (10, 0)]
        for first, second in zip(ballots, ballots[1:]):
            self.assertLess(first, second)
        for after in (0, 1, 9998):
            for index in range(7):
                self.assertGreater(next_ballot(after, index), (after, 6))
