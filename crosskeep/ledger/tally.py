"""The tally: whoever looks on finds by the votes which entries are chosen (point [52])."""

from crosskeep.ledger.entries import members_of_slot
from crosskeep.voting.votes import choice_of


class Tally:
    """The votes for all slots, and the entries that they choose."""

    def __init__(self, first_members):
        self.first_members = first_members
        self.row = []
        self.votes = []
        self._by_slot = {}

    def add(self, slot, index, ballot, entry):
        """Add a vote; return a list of the entries that are newly chosen by it, in the order of their slots."""
        self.votes.append((slot, index, ballot, entry))
        self._by_slot.setdefault(slot, []).append((index, ballot, entry))
        before = len(self.row)
        # Only a vote for the next slot can make anything chosen; votes for the slots behind it may wait for that.
        if slot == before + 1:
            self._count()
        return self.row[before:]

    def _count(self):
        entry = self._next_choice()
        while entry is not None:
            self.row.append(entry)
            entry = self._next_choice()

    def _next_choice(self):
        slot = len(self.row) + 1
        return choice_of(self.members_of(slot), self._by_slot.get(slot, []))

    def members_of(self, slot):
        """Return the members of a slot up to the next one."""
        return members_of_slot(self.first_members, self.row, slot)

    def votes_of(self, slot):
        """Return a list of the votes (index, ballot, entry) for a slot."""
        return list(self._by_slot.get(slot, []))

    def fork(self):
        """Return a new Tally in the same state."""
        twin = Tally(self.first_members)
        twin.row = list(self.row)
        twin.votes = list(self.votes)
        twin._by_slot = {slot: list(votes) for slot, votes in self._by_slot.items()}
        return twin
