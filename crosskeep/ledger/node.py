"""Nodes: they keep one row of entries together, whatever is lost of messages and disks (points [42] to [51])."""

from crosskeep.journal.journal import Journal
from crosskeep.ledger.entries import MEMBERS, MOST_GIVEN, MOST_WAITING, batch_of, commands_of, members_of_slot
from crosskeep.ledger.record import ACCEPT, CHOSEN, PROMISE, Record, record_of
from crosskeep.packing.packs import pack
from crosskeep.voting.attempt import Attempt
from crosskeep.voting.ballots import next_ballot

UP = "up"
DOWN = "down"
GONE = "gone"

LONG_PATIENCE = 6
SHORT_PATIENCE = 2


class Node:
    """A node of a cell: its journal, what that makes, and what is lost by a crash."""

    def __init__(self, index, size, first_members, make_machine, lazy):
        self.index = index
        self.size = size
        self.first_members = first_members
        self.lazy = lazy
        self.state = UP
        self.journal = Journal()
        self.record = Record()
        self._make_machine = make_machine
        # Votes that nobody was told of yet, each behind the number of the frame that has to be synced for it.
        self._untold = []
        self._begin_anew()

    def _begin_anew(self):
        self.waiting = []
        self.wanted = None
        self.attempt = None
        self.patience = self._long_patience()
        self.guest = False
        self.seen = 0
        self.machine = self._make_machine()
        self._sends = []
        self._letters = []

    @property
    def upto(self):
        """The length of the row."""
        return len(self.record.row)

    @property
    def members_now(self):
        """The members of the next slot."""
        return members_of_slot(self.first_members, self.record.row, self.upto + 1)

    def offer(self, command):
        """Offer a command; return True if it was taken, otherwise False."""
        if self.machine.settled(command) or command in self.waiting or len(self.waiting) >= MOST_WAITING:
            return False
        self.waiting.append(command)
        self._begin_if_free()
        self._end_step()
        return True

    def offer_members(self, members):
        """Offer members; return True if they were taken, otherwise False."""
        if self.wanted is not None or members == self.members_now:
            return False
        self.wanted = members
        self._begin_if_free()
        self._end_step()
        return True

    def receive(self, sender, body):
        """Receive a message from the node with the index sender."""
        word = body[0]
        if word == "fetch":
            self._give(sender, body[1] + 1)
        elif word == "give":
            self._hear_give(sender, body[1], body[2])
        else:
            self._hear_of_slot(sender, body)
        self._end_step()

    def tick(self):
        """Let a tick go by."""
        self.patience -= 1
        if self.patience == 0:
            self.guest = False
            if not self._something_waits() or not self._begin():
                self.patience = self._long_patience()
                self._send_to_others(("fetch", self.upto))
        self._end_step()

    def sync(self):
        """Sync the journal."""
        self.journal.sync()

    def crash(self, count):
        """Lose all that is volatile, and of the octets that are not synced all but so many."""
        self.journal.crash(count)
        self._untold = [vote for vote in self._untold if vote[0] <= self.journal.frame_count]
        self.record = record_of(self.journal.payloads())
        self.state = DOWN
        self._begin_anew()

    def restart(self):
        """Come back with what the journal tells."""
        self.state = UP
        self._do_row()

    def wipe(self):
        """Be gone for good."""
        synced = self.journal.synced_frames
        # What was synced stays a vote, though the journal that had it is no more.
        self._untold = [(0, told) for frame, told in self._untold if frame <= synced]
        self.journal = Journal()
        self.record = Record()
        self.state = GONE
        self._begin_anew()

    def sends(self):
        """Return a list of the messages (index, body) that go out now; they do not wait any more."""
        if not self._may_go_out():
            return []
        told = self._sends
        self._sends = []
        return told

    def letters(self):
        """Return a list of the letters that go out now; they do not wait any more."""
        if not self._may_go_out():
            return []
        told = self._letters
        self._letters = []
        return told

    def new_votes(self):
        """Return a list of the votes (slot, ballot, entry) that were synced since this was last asked."""
        synced = self.journal.synced_frames
        votes = [told for frame, told in self._untold if frame <= synced]
        self._untold = [vote for vote in self._untold if vote[0] > synced]
        return votes

    def fork(self, make_machine):
        """Return a new Node in the same state, with a machine of this maker."""
        twin = Node(self.index, self.size, self.first_members, make_machine, self.lazy)
        twin.state = self.state
        twin.journal = self.journal.fork()
        twin.record = self.record.fork()
        if self.state == UP:
            twin._do_row()
        twin.waiting = list(self.waiting)
        twin.wanted = self.wanted
        twin.attempt = None if self.attempt is None else self.attempt.fork()
        twin.patience = self.patience
        twin.guest = self.guest
        twin.seen = self.seen
        twin._sends = list(self._sends)
        twin._letters = list(self._letters)
        twin._untold = list(self._untold)
        return twin

    def _long_patience(self):
        return LONG_PATIENCE + 2 * self.index

    def _something_waits(self):
        return len(self.waiting) > 0 or self.wanted is not None

    def _may_go_out(self):
        return self.journal.synced_frames == self.journal.frame_count

    def _do_row(self):
        for entry in self.record.row:
            self._do_entry(entry)

    def _do_entry(self, entry):
        """Apply the commands of an entry to the machine; return a list of their letters."""
        letters = []
        for command in commands_of(entry):
            letters.extend(self.machine.apply(command))
        return letters

    def _end_step(self):
        if not self.lazy:
            self.journal.sync()

    def _note(self, update):
        self.journal.append(pack(update))
        self.record.do(update)

    def _send(self, index, body):
        self._sends.append((index, body))

    def _send_to_all(self, body):
        for index in range(self.size):
            self._send(index, body)

    def _send_to_others(self, body):
        for index in range(self.size):
            if index != self.index:
                self._send(index, body)

    def _begin_if_free(self):
        if self.attempt is None and not self.guest:
            self._begin()

    def _begin(self):
        """Begin an attempt of the next slot if there is a next ballot; return whether there is one."""
        ballot = next_ballot(max(self.seen, self.record.acceptor.promised[0]), self.index)
        if ballot is None:
            return False
        slot = self.upto + 1
        self._note((PROMISE, slot, ballot))
        entry = batch_of(self.waiting) if self.wanted is None else (MEMBERS, self.wanted)
        self.attempt = Attempt(ballot, entry, self.members_now)
        self.guest = False
        self.patience = self._long_patience()
        self._send_to_all(("ask", slot, ballot))
        return True

    def _hear_of_slot(self, sender, body):
        word, slot = body[0], body[1]
        if slot <= self.upto:
            if word in ("ask", "tell") and sender != self.index:
                self._give(sender, slot)
        elif slot == self.upto + 1:
            self._hear_of_next_slot(sender, body)
        elif sender != self.index:
            self._send(sender, ("fetch", self.upto))

    def _hear_of_next_slot(self, sender, body):
        word = body[0]
        if word == "ask":
            self._hear_ask(sender, body[2])
        elif word == "tell":
            self._hear_tell(sender, body[2], body[3])
        elif word == "promise":
            self._hear_promise(sender, body[2], body[3])
        elif word == "voted":
            self._hear_voted(sender, body[2])
        elif word == "refuse":
            self._hear_refuse(body[2], body[3])
        elif word == "chosen":
            self._learn(body[2], False)

    def _hear_ask(self, sender, ballot):
        acceptor = self.record.acceptor
        if self._heeds(sender, ballot) and self.index in self.members_now:
            if acceptor.promised != ballot:
                self._note((PROMISE, self.upto + 1, ballot))
            self._send(sender, ("promise", self.upto + 1, ballot, acceptor.accepted))

    def _hear_tell(self, sender, ballot, entry):
        accepted = self.record.acceptor.accepted
        if self._heeds(sender, ballot) and self.index in self.members_now:
            if accepted is None or accepted[0] != ballot:
                self._note((ACCEPT, self.upto + 1, ballot, entry))
                self._untold.append((self.journal.frame_count, (self.upto + 1, ballot, entry)))
            self._send(sender, ("voted", self.upto + 1, ballot))

    def _heeds(self, sender, ballot):
        """Return True if the acceptor hears the ballot, of another node as its guest; otherwise refuse it."""
        acceptor = self.record.acceptor
        if not acceptor.hears(ballot):
            self._send(sender, ("refuse", self.upto + 1, ballot, acceptor.promised))
            return False
        if sender != self.index:
            self.guest = True
            self.patience = self._long_patience()
        return True

    def _attempts(self, ballot):
        return self.attempt is not None and self.attempt.ballot == ballot

    def _hear_promise(self, sender, ballot, accepted):
        if self._attempts(ballot) and self.attempt.hear_promise(sender, accepted):
            self._send_to_all(("tell", self.upto + 1, ballot, self.attempt.entry))

    def _hear_voted(self, sender, ballot):
        if self._attempts(ballot) and self.attempt.hear_vote(sender):
            self._learn(self.attempt.entry, True)

    def _hear_refuse(self, ballot, promised):
        self.seen = max(self.seen, promised[0])
        if self._attempts(ballot):
            self.attempt = None
            self.guest = True
            self.patience = self._long_patience()

    def _learn(self, entry, counted):
        """Put the entry of the next slot behind the row; the letters go out if this node counted its votes."""
        slot = self.upto + 1
        self._note((CHOSEN, slot, entry))
        letters = self._do_entry(entry)
        self.waiting = [command for command in self.waiting if not self.machine.settled(command)]
        if entry == (MEMBERS, self.wanted):
            self.wanted = None
        self.attempt = None
        self.guest = False
        self.patience = SHORT_PATIENCE + 2 * self.index
        self.seen = 0
        if counted:
            self._letters.extend(letters)
            self._send_to_others(("chosen", slot, entry))
            if self._something_waits():
                self._begin()

    def _give(self, index, slot):
        entries = self.record.row[slot - 1:slot - 1 + MOST_GIVEN]
        if entries:
            self._send(index, ("give", slot, tuple(entries)))

    def _hear_give(self, sender, first, entries):
        before = self.upto
        for slot, entry in enumerate(entries, first):
            if slot == self.upto + 1:
                self._learn(entry, False)
        if self.upto > before and len(entries) == MOST_GIVEN:
            self._send(sender, ("fetch", self.upto))
