"""Points [36] and [37]: votes, their choice, grounds and lawful votes; point [38]: chosen entries stay."""

import unittest
from itertools import combinations
from random import Random

from crosskeep.voting.votes import are_grounds, choice_of, grounds_of, unlawful_ballot

THREE = (0, 1, 2)


def plain_majorities(members):
    return [chosen for many in range(len(members) + 1) for chosen in combinations(members, many)
            if 2 * many > len(members)]


def plain_unlawful(members, votes):
    """The least ballot that breaks point [36], looked for as its words tell, majority by majority."""
    votes = [vote for vote in votes if vote[0] in members]
    for ballot in sorted({vote[1] for vote in votes}):
        entries = [vote[2] for vote in votes if vote[1] == ballot]
        if any(entry != entries[0] for entry in entries):
            return ballot
        if not any(plain_allows(chosen, votes, ballot, entries[0]) for chosen in plain_majorities(members)):
            return ballot
    return None


def plain_allows(chosen, votes, ballot, entry):
    below = [vote for vote in votes if vote[0] in chosen and vote[1] < ballot]
    if not below:
        return True
    greatest = max(vote[1] for vote in below)
    return [vote[2] for vote in below if vote[1] == greatest][0] == entry


def plain_grounds(members, votes):
    votes = [vote for vote in votes if vote[0] in members]
    for ballot in sorted({vote[1] for vote in votes}):
        for _, _, entry in [vote for vote in votes if vote[1] == ballot]:
            voters = {vote[0] for vote in votes if vote[1:] == (ballot, entry)}
            if 2 * len(voters) > len(members):
                return (ballot, entry, tuple(sorted(voters)))
    return None


def some_votes(random, indexes, rounds, entries, most):
    return [
        (random.choice(indexes), (random.randint(1, rounds), random.choice((0, 3))), random.choice(entries))
        for _ in range(random.randrange(most))
    ]


def lawful_votes(random, members, rounds):
    """Votes that acceptors give which promise and accept as point [34] tells, one attempt behind another."""
    promised, accepted, votes = {}, {}, []
    for number in range(1, rounds + 1):
        ballot = (number, random.choice((0, 1, 2)))
        asked = random.sample(members, random.randint(len(members) // 2 + 1, len(members)))
        told = [accepted[member] for member in asked if member in accepted]
        entry = max(told)[1] if told else "e" + str(number)
        for member in asked:
            promised[member] = ballot
        for member in random.sample(members, random.randint(0, len(members))):
            accepted[member] = (ballot, entry)
            votes.append((member, ballot, entry))
    return votes


class Choice(unittest.TestCase):
    def test_example_of_the_document(self):
        votes = [(0, (1, 0), "a"), (1, (2, 1), "b"), (2, (2, 1), "b")]
        self.assertEqual(choice_of(THREE, votes), "b")
        self.assertIs(unlawful_ballot(THREE, votes) is None, True)
        self.assertEqual(unlawful_ballot(THREE, votes + [(1, (1, 0), "a")]), (2, 1))

    def test_nothing_is_chosen(self):
        for votes in (
            [],
            [(0, (1, 0), "a")],
            [(0, (1, 0), "a"), (0, (1, 0), "a")],
            [(0, (1, 0), "a"), (1, (1, 1), "a")],
            [(0, (1, 0), "a"), (1, (1, 0), "b"), (2, (1, 0), "c")],
            [(0, (1, 0), "a"), (3, (1, 0), "a"), (4, (1, 0), "a")],
        ):
            self.assertIsNone(choice_of(THREE, votes), votes)
            self.assertIsNone(grounds_of(THREE, votes), votes)

    def test_just_more_than_half(self):
        votes = [(0, (1, 0), "a"), (1, (1, 0), "a")]
        self.assertEqual(choice_of((0, 1, 2), votes), "a")
        self.assertIsNone(choice_of((0, 1, 2, 3), votes))
        self.assertEqual(choice_of((0, 1), votes), "a")
        self.assertEqual(choice_of((1,), votes), "a")

    def test_several_ballots_choose_one_entry(self):
        votes = [(index, (number, 0), "a") for number in (5, 3, 4) for index in (2, 1, 0)]
        self.assertEqual(grounds_of(THREE, votes), ((3, 0), "a", (0, 1, 2)))
        self.assertEqual(grounds_of(THREE, votes[:3]), ((5, 0), "a", (0, 1, 2)))

    def test_the_least_ballot_decides(self):
        votes = [(index, ballot, entry) for ballot, entry in (((2, 1), "b"), ((2, 0), "c"), ((3, 0), "d"))
                 for index in (0, 1)]
        self.assertEqual(grounds_of(THREE, votes), ((2, 0), "c", (0, 1)))

    def test_several_entries_with_one_ballot(self):
        votes = [(0, (1, 0), "b"), (1, (1, 0), "b"), (0, (1, 0), "a"), (1, (1, 0), "a")]
        self.assertEqual(choice_of(THREE, votes), "b")
        self.assertEqual(choice_of(THREE, votes[2:] + votes[:2]), "a")
        self.assertEqual(choice_of(THREE, [(5, (1, 0), "a")] + votes), "b")

    def test_all_voters_stand_in_grounds(self):
        votes = [(2, (1, 0), "a"), (0, (1, 0), "a"), (4, (1, 0), "a"), (1, (1, 0), "a"), (0, (1, 0), "a")]
        self.assertEqual(grounds_of(THREE, votes), ((1, 0), "a", (0, 1, 2)))
        self.assertEqual(grounds_of((0, 1, 2, 3, 4), votes), ((1, 0), "a", (0, 1, 2, 4)))

    def test_entries_of_all_kinds(self):
        deep = "x"
        for _ in range(38):
            deep = (deep,)
        for entry in (0, -5, "", (), (None,), deep, ("batch", (("a", 1), ("b", None)))):
            votes = [(0, (1, 0), entry), (2, (1, 0), entry), (1, (2, 0), 99)]
            self.assertEqual(choice_of(THREE, votes), entry)
            self.assertEqual(unlawful_ballot(THREE, votes), (2, 0))
            self.assertTrue(are_grounds(THREE, votes[:2], ((1, 0), entry, (0, 2))))

    def test_the_list_stays(self):
        votes = [(2, (2, 0), "a"), (0, (1, 0), "a"), (2, (2, 0), "a")]
        before = list(votes)
        choice_of(THREE, votes)
        grounds_of(THREE, votes)
        unlawful_ballot(THREE, votes)
        are_grounds(THREE, votes, ((1, 0), "a", (0, 2)))
        self.assertEqual(votes, before)

    def test_as_the_words_tell(self):
        random = Random(36)
        for _ in range(4000):
            members = tuple(sorted(random.sample(range(6), random.randint(1, 5))))
            votes = some_votes(random, range(7), 3, "ab", 16)
            grounds = plain_grounds(members, votes)
            self.assertEqual(grounds_of(members, votes), grounds, (members, votes))
            self.assertEqual(choice_of(members, votes), None if grounds is None else grounds[1], (members, votes))


class Lawful(unittest.TestCase):
    def test_lawful_ones(self):
        for votes in (
            [],
            [(0, (1, 0), "a")],
            [(0, (1, 0), "a"), (1, (2, 0), "b")],
            [(0, (1, 0), "a"), (1, (2, 0), "b"), (2, (3, 0), "a")],
            [(0, (1, 0), "a"), (1, (1, 0), "a"), (1, (2, 0), "a"), (2, (3, 0), "a")],
            [(0, (1, 0), "a"), (0, (2, 0), "b"), (0, (3, 0), "c")],
            [(4, (1, 0), "a"), (5, (1, 0), "b"), (0, (2, 0), "c")],
        ):
            self.assertIsNone(unlawful_ballot(THREE, votes), votes)

    def test_two_entries_with_one_ballot(self):
        self.assertEqual(unlawful_ballot(THREE, [(0, (1, 0), "a"), (1, (1, 0), "b")]), (1, 0))
        self.assertEqual(unlawful_ballot(THREE, [(0, (1, 0), "a"), (0, (1, 0), "b")]), (1, 0))
        self.assertIsNone(unlawful_ballot(THREE, [(0, (1, 0), "a"), (3, (1, 0), "b")]))

    def test_an_entry_that_was_passed_over(self):
        chosen = [(0, (1, 0), "a"), (1, (1, 0), "a")]
        self.assertEqual(unlawful_ballot(THREE, chosen + [(2, (2, 0), "b")]), (2, 0))
        self.assertIsNone(unlawful_ballot((0, 1, 2, 3, 4), chosen + [(2, (2, 0), "b")]))
        self.assertIsNone(unlawful_ballot(THREE, chosen + [(3, (2, 0), "b")]))

    def test_the_greatest_ballot_below_counts(self):
        votes = [(0, (1, 0), "a"), (1, (2, 0), "b")]
        self.assertIsNone(unlawful_ballot(THREE, votes + [(2, (3, 0), "b")]))
        self.assertIsNone(unlawful_ballot(THREE, votes + [(2, (3, 0), "a")]))
        self.assertEqual(unlawful_ballot(THREE, votes + [(2, (3, 0), "c")]), (3, 0))
        self.assertEqual(unlawful_ballot((0, 1), votes + [(0, (3, 0), "a")]), (2, 0))
        self.assertEqual(unlawful_ballot((0, 1), [(0, (1, 0), "a"), (1, (2, 0), "a"), (1, (3, 0), "b")]), (3, 0))

    def test_a_later_vote_hides_an_earlier_one_of_its_member(self):
        votes = [(0, (1, 0), "a"), (1, (1, 0), "a"), (1, (2, 0), "a"), (0, (2, 0), "a")]
        self.assertIsNone(unlawful_ballot(THREE, votes + [(2, (3, 0), "a")]))
        votes = [(0, (1, 0), "a"), (1, (2, 0), "b"), (0, (3, 0), "b")]
        self.assertEqual(unlawful_ballot((0, 1), votes), (2, 0))
        votes = [(0, (1, 0), "a"), (1, (2, 0), "b"), (0, (3, 0), "b"), (2, (4, 0), "a")]
        self.assertEqual(unlawful_ballot(THREE, votes), (4, 0))

    def test_the_least_of_several(self):
        votes = [(0, (4, 0), "a"), (1, (4, 0), "b"), (0, (2, 1), "a"), (1, (2, 1), "b"), (2, (2, 0), "a")]
        self.assertEqual(unlawful_ballot(THREE, votes), (2, 1))

    def test_as_the_words_tell(self):
        random = Random(37)
        seen = {True: 0, False: 0}
        for _ in range(6000):
            members = tuple(sorted(random.sample(range(6), random.randint(1, 5))))
            votes = some_votes(random, range(6), 4, "aaab", random.choice((4, 8, 14)))
            wanted = plain_unlawful(members, votes)
            seen[wanted is None] += 1
            self.assertEqual(unlawful_ballot(members, votes), wanted, (members, votes))
        self.assertTrue(min(seen.values()) > 500, seen)


class Grounds(unittest.TestCase):
    votes = [(3, (2, 1), "a"), (0, (2, 1), "a"), (1, (2, 1), "a"), (2, (1, 0), "b"), (5, (2, 1), "a")]
    members = (0, 1, 2, 3, 4)

    def is_good(self, *grounds):
        return are_grounds(self.members, self.votes, grounds)

    def test_good_ones(self):
        self.assertEqual(grounds_of(self.members, self.votes), ((2, 1), "a", (0, 1, 3)))
        self.assertIs(self.is_good((2, 1), "a", (0, 1, 3)), True)
        self.assertIs(are_grounds(self.members, self.votes + self.votes, ((2, 1), "a", (0, 1, 3))), True)

    def test_another_ballot_or_entry(self):
        for ballot in ((1, 0), (2, 0), (2, 2), (3, 1)):
            self.assertIs(self.is_good(ballot, "a", (0, 1, 3)), False, ballot)
        self.assertIs(self.is_good((2, 1), "b", (0, 1, 3)), False)
        self.assertIs(self.is_good((2, 1), ("a",), (0, 1, 3)), False)

    def test_other_indexes(self):
        for indexes in ((), (0,), (0, 1), (1, 3), (0, 1, 2, 3), (0, 1, 4), (0, 1, 1, 3), (0, 0, 1), (1, 0, 3),
                        (3, 1, 0), (0, 1, 3, 5), (0, 1, 5), (0, 1, 3, 3), (0, 1, 3, 6)):
            self.assertIs(self.is_good((2, 1), "a", indexes), False, indexes)

    def test_one_that_may_be_left_out(self):
        votes = self.votes + [(4, (2, 1), "a")]
        for indexes in ((0, 1, 3, 4), (0, 1, 4), (1, 3, 4), (0, 3, 4)):
            self.assertIs(are_grounds(self.members, votes, ((2, 1), "a", indexes)), True, indexes)
        self.assertIs(are_grounds(self.members, votes, ((2, 1), "a", (0, 4))), False)

    def test_a_later_ballot(self):
        votes = self.votes + [(index, (3, 0), "a") for index in (0, 1, 3)]
        self.assertIs(are_grounds(self.members, votes, ((3, 0), "a", (0, 1, 3))), True)

    def test_votes_that_are_not_lawful(self):
        for vote in ((2, (2, 1), "b"), (0, (3, 0), "c")):
            self.assertIs(are_grounds(self.members, self.votes + [vote], ((2, 1), "a", (0, 1, 3))), False, vote)
        self.assertIs(are_grounds(self.members, self.votes + [(5, (2, 1), "b")], ((2, 1), "a", (0, 1, 3))), True)

    def test_grounds_of_lawful_votes_are_good(self):
        random = Random(38)
        good = 0
        for _ in range(3000):
            members = tuple(range(random.randint(1, 5)))
            votes = some_votes(random, range(5), 3, "aaab", 14)
            grounds = grounds_of(members, votes)
            if grounds is not None:
                lawful = plain_unlawful(members, votes) is None
                good += lawful
                self.assertIs(are_grounds(members, votes, grounds), lawful, (members, votes))
        self.assertGreater(good, 300)


class Stays(unittest.TestCase):
    def test_what_lawful_votes_choose_stays(self):
        random = Random(39)
        chosen = 0
        for _ in range(800):
            members = tuple(sorted(random.sample(range(7), random.randint(1, 5))))
            votes = lawful_votes(random, members, random.randint(1, 9))
            self.assertIsNone(unlawful_ballot(members, votes), votes)
            told = None
            for count in range(len(votes) + 1):
                some = votes[:count]
                random.shuffle(some)
                entry = choice_of(members, some)
                if told is not None:
                    self.assertEqual(entry, told, (members, some))
                told = entry
            chosen += told is not None
        self.assertGreater(chosen, 300)

    def test_any_lawful_votes_that_come_leave_the_choice(self):
        random = Random(40)
        grown = 0
        for _ in range(2500):
            members = tuple(range(random.choice((3, 4, 5))))
            votes = lawful_votes(random, members, 3)
            more = votes + some_votes(random, members, 5, ["e1", "e2", "e3"], 4)
            entry = choice_of(members, votes)
            if entry is not None and unlawful_ballot(members, more) is None:
                grown += len(more) > len(votes)
                self.assertEqual(choice_of(members, more), entry, (members, votes, more))
        self.assertGreater(grown, 200)


if __name__ == "__main__":
    unittest.main()
