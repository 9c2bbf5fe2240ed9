"""Acceptors: what a node has promised and accepted (point [34])."""

from crosskeep.voting.ballots import NO_BALLOT


class Acceptor:
    """The ballot that is promised, and None or the tuple (ballot, entry) that was accepted last."""

    def __init__(self, promised=NO_BALLOT, accepted=None):
        self.promised = promised
        self.accepted = accepted

    def hears(self, ballot):
        """Return True if the ballot is not below the promised one, otherwise False."""
        return ballot >= self.promised

    def promise(self, ballot):
        """Promise a ballot that it hears."""
        self.promised = ballot

    def accept(self, ballot, entry):
        """Accept an entry with a ballot that it hears."""
        self.promised = ballot
        self.accepted = (ballot, entry)

    def fork(self):
        """Return a new Acceptor with the same fields."""
        return Acceptor(self.promised, self.accepted)
