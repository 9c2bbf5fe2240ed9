"""The bag: messages on their way, and links that may be cut (points [30] and [31])."""

from crosskeep.errors import LinkCut, NoMessage


class Bag:
    """Messages by their numbers, and the links that are cut."""

    def __init__(self):
        self._messages = {}
        self._next_number = 0
        self._cut_links = {}

    def send(self, sender, receiver, body):
        """Send a message; return its number."""
        number = self._next_number
        self._messages[number] = (sender, receiver, body)
        self._next_number = number + 1
        return number

    def message(self, number):
        """Return the tuple (sender, receiver, body). Raise NoMessage if it is not in the bag."""
        if number not in self._messages:
            raise NoMessage("no such message is in the bag")
        return self._messages[number]

    def take(self, number):
        """Take a message out of the bag; return (sender, receiver, body). Raise NoMessage, then LinkCut."""
        if self.is_cut(number):
            raise LinkCut("the link of the message is cut")
        return self._messages.pop(number)

    def drop(self, number):
        """Lose a message. Raise NoMessage if it is not in the bag."""
        self.message(number)
        del self._messages[number]

    def is_cut(self, number):
        """Return True if the link of a message is cut, otherwise False. Raise NoMessage."""
        sender, receiver, _ = self.message(number)
        return (sender, receiver) in self._cut_links

    def double(self, number):
        """Send a message once more; return the number of the new one. Raise NoMessage."""
        sender, receiver, body = self.message(number)
        return self.send(sender, receiver, body)

    def numbers(self):
        """Return a list of the numbers of all messages in the bag, ascending."""
        return sorted(self._messages)

    def cut(self, sender, receiver):
        """Cut the link, if it is there."""
        self._cut_links[(sender, receiver)] = True

    def heal(self, sender, receiver):
        """Make the link be there, if it is cut."""
        self._cut_links.pop((sender, receiver), None)

    def links(self):
        """Return a list of the pairs (sender, receiver) of all links that are cut, ascending."""
        return sorted(self._cut_links)

    def fork(self):
        """Return a new Bag in the same state."""
        twin = Bag()
        twin._messages = dict(self._messages)
        twin._next_number = self._next_number
        twin._cut_links = {link: True for link in self._cut_links}
        return twin
