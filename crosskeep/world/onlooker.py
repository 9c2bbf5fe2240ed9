"""The one who looks on: who sees the votes of all nodes, and what they choose (point [90])."""

from crosskeep.ledger.entries import commands_of
from crosskeep.ledger.tally import Tally


class Onlooker:
    """A tally for each cell, and the entries that were chosen, with their cells, in order."""

    def __init__(self, plan):
        self.tallies = [Tally(members) for members in plan.members]
        self.chosen = []

    def see(self, cell, index, votes):
        """See the votes (slot, ballot, entry) of a node."""
        tally = self.tallies[cell - 1]
        for slot, ballot, entry in votes:
            self.chosen.extend([(cell, chosen) for chosen in tally.add(slot, index, ballot, entry)])

    def commands(self):
        """Return a list of the pairs (cell, command) of all chosen commands."""
        return [(cell, command) for cell, entry in self.chosen for command in commands_of(entry)]
