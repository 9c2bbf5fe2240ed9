"""Attempts: how a node brings an entry through with a ballot of its own (point [35])."""

from crosskeep.voting.ballots import more_than_half

ASKING = "asking"
TELLING = "telling"
WON = "won"


class Attempt:
    """A ballot and an entry, and which members promised and voted."""

    def __init__(self, ballot, entry, members):
        self.ballot = ballot
        self.entry = entry
        self.members = members
        self.stage = ASKING
        self.promised_by = []
        self.voted_by = []
        self.bound = None

    def hear_promise(self, index, accepted):
        """Hear a promise and what was accepted ahead of it; return True if the stage became "telling" by this."""
        if self.stage != ASKING or not self._is_new(index, self.promised_by):
            return False
        self.promised_by.append(index)
        self.promised_by.sort()
        if accepted is not None and (self.bound is None or self.bound[0] < accepted[0]):
            self.bound = accepted
        if not more_than_half(self.members, self.promised_by):
            return False
        self.stage = TELLING
        if self.bound is not None:
            self.entry = self.bound[1]
        return True

    def hear_vote(self, index):
        """Hear a vote; return True if the stage became "won" by this, otherwise False."""
        if self.stage != TELLING or not self._is_new(index, self.voted_by):
            return False
        self.voted_by.append(index)
        self.voted_by.sort()
        if not more_than_half(self.members, self.voted_by):
            return False
        self.stage = WON
        return True

    def _is_new(self, index, heard):
        return index in self.members and index not in heard

    def fork(self):
        """Return a new Attempt in the same state."""
        twin = Attempt(self.ballot, self.entry, self.members)
        twin.stage = self.stage
        twin.promised_by = list(self.promised_by)
        twin.voted_by = list(self.voted_by)
        twin.bound = self.bound
        return twin
