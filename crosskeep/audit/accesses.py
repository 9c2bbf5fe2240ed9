"""Traces: which deals came to which keys at a cell, and when (point [107])."""

from crosskeep.data.deals import keys_of
from crosskeep.data.parts import keys_of_part
from crosskeep.judge.explain import is_decided
from crosskeep.keeper.keeper import Keeper
from crosskeep.ledger.entries import commands_of


class Trace:
    """A keeper that follows the row of a cell, and the tuples (key, epoch, place, name) of all accesses, in order."""

    def __init__(self, cell, ranges, row):
        self.keeper = Keeper(cell, ranges)
        self.accesses = []
        self._cell = cell
        for entry in row:
            for command in commands_of(entry):
                self._follow(command)

    def _follow(self, command):
        changes = not self.keeper.settled(command)
        self.keeper.apply(command)
        word, *told = command
        if changes and word == "deal":
            self._note_deal(*told)
        elif changes and word == "lock":
            self._note_lock(*told)

    def _note_deal(self, client, number, deal, places):
        # A hold does not tell what this command did: a lock may have given it before, and the deal is refused now.
        answer = self.keeper.answer_of(client, number)
        if answer is None:
            self._note(client, number, [key for key, cell in places if cell == self._cell])
        elif is_decided(answer):
            self._note(client, number, keys_of(deal))

    def _note_lock(self, home, client, number, part):
        if self.keeper.has_hold(client, number):
            self._note(client, number, keys_of_part(part))

    def _note(self, client, number, keys):
        for key in keys:
            self.accesses.append((key, self.keeper.epoch_at(key), len(self.accesses), (client, number)))
