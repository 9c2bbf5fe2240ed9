"""Point [39]: acceptors and attempts, whatever comes in any order or never, give lawful votes."""

import unittest
from random import Random

from crosskeep.voting.acceptor import Acceptor
from crosskeep.voting.attempt import Attempt
from crosskeep.voting.ballots import next_ballot
from crosskeep.voting.votes import choice_of, unlawful_ballot


class Ballots:
    """A slot with its acceptors and attempts, and all that they ever said, to be heard at any time."""

    def __init__(self, random, members):
        self.random = random
        self.members = members
        self.acceptors = {member: Acceptor() for member in members}
        self.attempts = []
        self.promises = []
        self.voted = []
        self.votes = []
        self.won = []

    def step(self):
        self.random.choice((self.begin, self.promise, self.hear_promise, self.accept, self.hear_vote))()

    def begin(self):
        ballot = next_ballot(self.random.randrange(12), self.random.randrange(7))
        if ballot not in [attempt.ballot for attempt in self.attempts]:
            self.attempts.append(Attempt(ballot, "e" + str(len(self.attempts)), self.members))

    def promise(self):
        if self.attempts:
            attempt = self.random.choice(self.attempts)
            member = self.random.choice(self.members)
            if self.acceptors[member].hears(attempt.ballot):
                self.acceptors[member].promise(attempt.ballot)
                self.promises.append((attempt, member, self.acceptors[member].accepted))

    def hear_promise(self):
        if self.promises:
            attempt, member, accepted = self.random.choice(self.promises)
            attempt.hear_promise(member, accepted)

    def accept(self):
        ready = [attempt for attempt in self.attempts if attempt.stage != "asking"]
        if ready:
            attempt = self.random.choice(ready)
            member = self.random.choice(self.members)
            if self.acceptors[member].hears(attempt.ballot):
                self.acceptors[member].accept(attempt.ballot, attempt.entry)
                self.votes.append((member, attempt.ballot, attempt.entry))
                self.voted.append((attempt, member))

    def hear_vote(self):
        if self.voted:
            attempt, member = self.random.choice(self.voted)
            if attempt.hear_vote(member):
                self.won.append(attempt.entry)


class Voting(unittest.TestCase):
    def test_votes_are_lawful_and_what_is_won_is_chosen(self):
        random = Random(5)
        rivals = 0
        for _ in range(400):
            members = tuple(sorted(random.sample(range(7), random.randint(1, 5))))
            slot = Ballots(random, members)
            for _ in range(random.randint(10, 160)):
                slot.step()
            self.assertIsNone(unlawful_ballot(members, slot.votes), slot.votes)
            for entry in slot.won:
                self.assertEqual(choice_of(members, slot.votes), entry)
            rivals += len(slot.won) > 1
        self.assertGreater(rivals, 20)


if __name__ == "__main__":
    unittest.main()
