"""Stations: nodes whose machines are keepers, and what they say to other cells and to clients (points [82] to [86])."""

from crosskeep.keeper.keeper import Keeper
from crosskeep.ledger.node import Node
from crosskeep.world.endpoints import endpoint_of, index_at

FIRST_DUE = 4

# The words of the messages that nodes of one cell send to one another.
NODE_WORDS = ("ask", "tell", "promise", "voted", "refuse", "chosen", "fetch", "give")


class Station:
    """A node of a cell of a plan, with the turn of its letters and the ticks till its orders are due."""

    def __init__(self, cell, index, plan):
        self.cell = cell
        self.plan = plan
        make_keeper = _maker_of_keepers(cell, plan.ranges)
        self.node = Node(index, plan.sizes[cell - 1], plan.members[cell - 1], make_keeper, plan.lazy)
        self.turn = index
        self._begin_wait()
        self._said = []

    @property
    def endpoint(self):
        """The endpoint of the node."""
        return endpoint_of(self.cell, self.node.index)

    def receive(self, sender, body):
        """Receive a message from an endpoint."""
        word = body[0]
        if word in NODE_WORDS:
            self.node.receive(index_at(sender), body)
        elif word == "request":
            self._hear_request(sender, body)
        elif word == "lock":
            self._hear_lock(sender, body)
        elif word == "end":
            self._hear_end(sender, body)
        elif word == "take":
            self._hear_take(sender, body)
        elif word in ("locked", "ended", "taken"):
            self.node.offer(body)

    def tick(self):
        """Let a tick go by."""
        self.node.tick()
        self.due -= 1
        if self.due == 0:
            self._begin_wait()
            self._said.extend([self._message_of(letter) for letter in self.node.machine.orders()])
            self.turn += 1

    def restart(self):
        """Come back behind a crash."""
        self.node.restart()
        self._begin_wait()

    def forget(self):
        """Lose what was said and not sent."""
        self._said = []

    def outgoing(self):
        """Return a list of the messages (receiver, body) that are sent behind a step; they do not wait any more."""
        messages = [(endpoint_of(self.cell, index), body) for index, body in self.node.sends()]
        messages.extend([self._message_of(letter) for letter in self.node.letters()])
        messages.extend(self._said)
        self.forget()
        return messages

    def _begin_wait(self):
        self.due = FIRST_DUE + self.node.index

    def _message_of(self, letter):
        """Return the message (receiver, body) that a letter becomes."""
        word, place, body = letter
        if word == "client":
            return (place, body)
        return (endpoint_of(place, self.turn % self.plan.sizes[place - 1]), body)

    def _say(self, receiver, body):
        self._said.append((receiver, body))

    def _hear_request(self, client, body):
        number, deal, places = body[1:]
        answer = self.node.machine.answer_of(client, number)
        if answer is None:
            self.node.offer(("deal", client, number, deal, places))
        else:
            self._say(client, ("answer", number, answer))

    def _hear_lock(self, sender, body):
        word, home, client, number, part = body
        verdict = self.node.machine.verdict_of(client, number)
        if verdict is None:
            self.node.offer(body)
        else:
            self._say(sender, ("locked", client, number, self.cell, verdict))

    def _hear_end(self, sender, body):
        word, home, client, number, done = body
        if self.node.machine.settled(body):
            self._say(sender, ("ended", client, number, self.cell))
        else:
            self.node.offer(body)

    def _hear_take(self, sender, body):
        word, source, mover, pieces = body
        if self.node.machine.settled(body):
            self._say(sender, ("taken", mover))
        else:
            self.node.offer(body)


def _maker_of_keepers(cell, ranges):
    return lambda: Keeper(cell, ranges)
