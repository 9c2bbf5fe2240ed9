"""Clients: they ask for one deal at a time, and learn where the keys are (points [77] and [78])."""

from crosskeep.clients.beliefs import first_beliefs, learned, places_of
from crosskeep.data.deals import keys_of


class OpenCall:
    """A call that is not answered: its number, its deal, and where the client believed the keys to be."""

    def __init__(self, number, deal, places):
        self.number = number
        self.deal = deal
        self.places = places

    @property
    def home(self):
        """The cell of its first place."""
        return self.places[0][1]

    def request(self):
        """Return its request."""
        return ("request", self.number, self.deal, self.places)


class Client:
    """A client with its beliefs, the number of its last call, and None or the call that is open."""

    def __init__(self, ranges):
        self.beliefs = first_beliefs(ranges)
        self.number = 0
        self.call = None

    def begin(self, deal):
        """Begin a call of a deal; no call is open."""
        self.number += 1
        self.call = OpenCall(self.number, deal, places_of(self.beliefs, keys_of(deal)))

    def hear(self, number, answer):
        """Hear an answer; return True if this closed the open call, otherwise False."""
        if self.call is None or self.call.number != number:
            return False
        self.call = None
        if answer[0] == "moved":
            for hint in answer[1]:
                self.beliefs = learned(self.beliefs, hint)
        return True
