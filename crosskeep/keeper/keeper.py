"""Keepers: the machines that lock, decide and end deals, and hand over ranges (points [58] to [74])."""

from crosskeep.data.keys import key_in
from crosskeep.data.parts import join_parts, keys_of_part, try_part, write_rows
from crosskeep.keeper.holds import Holds
from crosskeep.keeper.homes import HomeDeal, is_refusal, parts_by_cell
from crosskeep.keeper.land import Land
from crosskeep.keeper.moves import Moves
from crosskeep.keeper.pieces import piece_at


class Keeper:
    """The keeper of a cell."""

    def __init__(self, cell, ranges):
        self._cell = cell
        self._land = Land(cell, ranges)
        self._holds = Holds()
        self._moves = Moves()
        self._home_deals = {}
        self._sessions = {}
        self._decided = []

    def apply(self, command):
        """Carry a command out; return a list of letters."""
        letters = [] if self.settled(command) else self._carry_out(command)
        return letters + self._replies(command)

    def settled(self, command):
        """Return True if carrying the command out would change nothing, otherwise False."""
        word, *told = command
        if word == "deal":
            return told[1] <= self._session(told[0])[0]
        if word == "locked":
            return not self._awaits_verdict(told[0], told[1], told[2])
        if word == "ended":
            return not self._awaits_end(told[0], told[1], told[2])
        if word == "lock":
            return self._holds.has(told[1], told[2]) or told[2] <= self._holds.ended_number(told[1])
        if word == "end":
            return not self._holds.has(told[1], told[2]) and told[2] <= self._holds.ended_number(told[1])
        if word == "give":
            return self._moves.knows(told[0])
        if word == "take":
            return self.took(told[1])
        return not self._moves.is_leaving(told[0])

    def _carry_out(self, command):
        """Carry out a command that is not settled; return the letters that it causes but for its reply."""
        word, *told = command
        if word == "deal":
            return self._deal(*told)
        if word == "locked":
            return self._hear_verdict(*told)
        if word == "ended":
            return self._hear_end(*told)
        if word == "lock":
            return self._lock(*told)
        if word == "end":
            return self._end(*told)
        if word == "give":
            return self._give(*told)
        if word == "take":
            return self._take(*told)
        return self._hear_taken(*told)

    def _replies(self, command):
        """Return a list with the letter by which a command is replied to, settled or not, or an empty one."""
        word, *told = command
        if word == "deal":
            answer = self.answer_of(told[0], told[1])
            return [] if answer is None else [_answer_letter(told[0], told[1], answer)]
        if word == "lock":
            home, client, number, _ = told
            verdict = self.verdict_of(client, number)
            return [] if verdict is None else [("cell", home, ("locked", client, number, self._cell, verdict))]
        if word == "end":
            home, client, number, _ = told
            return [("cell", home, ("ended", client, number, self._cell))]
        if word == "take":
            source, mover, _ = told
            return [("cell", source, ("taken", mover))]
        return []

    def _deal(self, client, number, deal, places):
        self._sessions[client] = (number, None)
        parts = parts_by_cell(deal, places)
        own = parts.pop(self._cell, None)
        if own is None:
            return self._begin_home_deal(client, number, HomeDeal(parts, None))
        verdict = self._verdict_on(own)
        if is_refusal(verdict):
            self._note_outcome(client, number, verdict)
            return []
        tried = verdict[1]
        if parts:
            self._holds.hold(self._cell, client, number, keys_of_part(own), tried)
            return self._begin_home_deal(client, number, HomeDeal(parts, tried))
        self._note_outcome(client, number, join_parts([tried]))
        write_rows(self._land.rows, tried[3])
        return []

    def _begin_home_deal(self, client, number, home_deal):
        self._home_deals[(client, number)] = home_deal
        return self._orders_of(client, number)

    def _hear_verdict(self, client, number, cell, verdict):
        home_deal = self._home_deals[(client, number)]
        if not home_deal.hear(cell, verdict):
            return []
        outcome = home_deal.outcome
        self._note_outcome(client, number, outcome)
        if home_deal.tried is not None:
            self._end_part(client, number, home_deal.done())
        letters = [_answer_letter(client, number, outcome)] + self._orders_of(client, number)
        self._forget_if_over(client, number)
        return letters

    def _hear_end(self, client, number, cell):
        self._home_deals[(client, number)].strike(cell)
        self._forget_if_over(client, number)
        return []

    def _forget_if_over(self, client, number):
        if not self._home_deals[(client, number)].rest:
            del self._home_deals[(client, number)]

    def _lock(self, home, client, number, part):
        verdict = self._verdict_on(part)
        if is_refusal(verdict):
            self._holds.refuse(client, number, verdict)
        else:
            self._holds.hold(home, client, number, keys_of_part(part), verdict[1])
        return []

    def _end(self, home, client, number, done):
        self._end_part(client, number, done)
        return []

    def _give(self, mover, start, end, target):
        locked = any([key_in(key, start, end) for key in self._holds.locks])
        if locked or not self._land.owns_some_of(start, end):
            self._moves.refuse(mover)
            return []
        self._moves.begin(mover, target, self._land.send_off(start, end, target))
        return [self._take_letter(mover)]

    def _take(self, source, mover, brought):
        self._land.take_in(brought)
        self._moves.take(mover)
        return []

    def _hear_taken(self, mover):
        self._land.let_go(self._moves.target_of(mover), self._moves.brought_by(mover))
        self._moves.arrive(mover)
        return []

    def _verdict_on(self, part):
        keys = keys_of_part(part)
        hints = self._land.hints_for(keys)
        if hints:
            return ("moved", hints)
        if self._holds.locks_one_of(keys):
            return ("busy",)
        return ("tried", try_part(self._land.rows, part))

    def _end_part(self, client, number, done):
        writes = self._holds.end(client, number)
        if done == 1:
            write_rows(self._land.rows, writes)

    def _note_outcome(self, client, number, outcome):
        if outcome[0] in ("done", "unheld"):
            self._decided.append((client, number, outcome))
        if self._session(client)[0] == number:
            self._sessions[client] = (number, outcome)

    def _session(self, client):
        return self._sessions.get(client, (0, None))

    def _awaits_verdict(self, client, number, cell):
        return (client, number) in self._home_deals and self._home_deals[(client, number)].awaits(cell)

    def _awaits_end(self, client, number, cell):
        return (client, number) in self._home_deals and cell in self._home_deals[(client, number)].rest

    def orders(self):
        """Return a list of the letters that are to be sent again until they are answered."""
        letters = []
        for client, number in sorted(self._home_deals):
            letters.extend(self._orders_of(client, number))
        return letters + [self._take_letter(mover) for mover in self._moves.leaving()]

    def _orders_of(self, client, number):
        home_deal = self._home_deals[(client, number)]
        if home_deal.outcome is None:
            return [
                ("cell", cell, ("lock", self._cell, client, number, home_deal.parts[cell]))
                for cell in home_deal.awaited()
            ]
        done = home_deal.done()
        return [("cell", cell, ("end", self._cell, client, number, done)) for cell in home_deal.rest]

    def _take_letter(self, mover):
        return ("cell", self._moves.target_of(mover), ("take", self._cell, mover, self._moves.brought_by(mover)))

    def answer_of(self, client, number):
        """Return the answer of the session of the client, if it has this number, otherwise None."""
        reached, answer = self._session(client)
        return answer if reached == number else None

    def verdict_of(self, client, number):
        """Return the verdict on the deal that is still known here, or None."""
        return self._holds.verdict_of(client, number)

    def piece_rows(self):
        """Return a list with the tuple of each piece."""
        return [piece.as_row() for piece in self._land.pieces]

    def piece_row_at(self, key):
        """Return the tuple of the piece that has the key."""
        return piece_at(self._land.pieces, key).as_row()

    def epoch_at(self, key):
        """Return the epoch of the piece that has the key."""
        return piece_at(self._land.pieces, key).epoch

    def key_rows(self):
        """Return a list of the pairs (key, value) of all rows, ascending."""
        return [(key, self._land.rows[key]) for key in sorted(self._land.rows)]

    def lock_rows(self):
        """Return a list of the tuples (key, client, number) of all locks, ascending."""
        return sorted([(key, client, number) for key, (client, number) in self._holds.locks.items()])

    def hold_rows(self):
        """Return a list of the tuples (client, number, home) of all holds, ascending."""
        return sorted([(client, number, hold.home_cell) for (client, number), hold in self._holds.by_name.items()])

    def has_hold(self, client, number):
        """Return True if the deal has a hold here, otherwise False."""
        return self._holds.has(client, number)

    def home_rows(self):
        """Return a list of the tuples (client, number, outcome or None, rest) of all home deals, ascending."""
        names = sorted(self._home_deals)
        return [name + (self._home_deals[name].outcome, self._home_deals[name].rest) for name in names]

    def leaving_rows(self):
        """Return a list of the tuples (mover, target) of all movers by which pieces are leaving, ascending."""
        return [(mover, self._moves.target_of(mover)) for mover in self._moves.leaving()]

    def took(self, mover):
        """Return True if the mover was taken here, otherwise False."""
        return self._moves.took(mover)

    def refused(self, mover):
        """Return True if the mover is refused here, otherwise False."""
        return self._moves.refused(mover)

    def decided_rows(self):
        """Return a list of the tuples (client, number, answer) of all deals that were decided here, in order."""
        return list(self._decided)

    def writes_of(self, client, number):
        """Return the writes of what was tried of the deal that has a hold here, or an empty tuple."""
        return self._holds.writes_of(client, number)


def _answer_letter(client, number, answer):
    return ("client", client, ("answer", number, answer))
