"""What the updates of a journal make: a row, and the acceptor of the next slot (point [42])."""

from crosskeep.packing.packs import unpack_own
from crosskeep.voting.acceptor import Acceptor

PROMISE = "promise"
ACCEPT = "accept"
CHOSEN = "chosen"


class Record:
    """A row and an acceptor."""

    def __init__(self):
        self.row = []
        self.acceptor = Acceptor()

    @property
    def upto(self):
        """The length of the row."""
        return len(self.row)

    def do(self, update):
        """Do an update of the next slot."""
        word = update[0]
        if word == PROMISE:
            self.acceptor.promise(update[2])
        elif word == ACCEPT:
            self.acceptor.accept(update[2], update[3])
        elif word == CHOSEN:
            self.row.append(update[2])
            self.acceptor = Acceptor()

    def fork(self):
        """Return a new Record in the same state."""
        twin = Record()
        twin.row = list(self.row)
        twin.acceptor = self.acceptor.fork()
        return twin


def record_of(payloads):
    """Return the Record that packed updates, a list of lists of octets, make."""
    record = Record()
    for payload in payloads:
        # An update lays tuples of its own around a command that may be as deep as packable data can be.
        record.do(unpack_own(payload))
    return record
