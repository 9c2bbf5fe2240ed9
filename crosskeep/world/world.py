"""Worlds: cells, clients and messages, where everything happens by calls (points [82] to [90])."""

from crosskeep.bag.bag import Bag
from crosskeep.clients.client import Client
from crosskeep.clients.history import History
from crosskeep.data.deals import is_deal
from crosskeep.data.keys import is_range
from crosskeep.errors import CallOpen, LinkCut, NoCall, NoClient, NodeDown, NodeGone, NodeUp, NoNode
from crosskeep.errors import NotDeal, OutOfRange
from crosskeep.ledger.node import DOWN, GONE, UP
from crosskeep.voting.ballots import is_members
from crosskeep.world.calls import check_call
from crosskeep.world.endpoints import CLIENTS, endpoint_of, is_client
from crosskeep.world.onlooker import Onlooker
from crosskeep.world.plan import Plan
from crosskeep.world.station import Station

MOST_LEFT = 1000000
MOST_ROUNDS = 400
ROUNDS_OF_REQUEST = 6


class World:
    """A bag, a station for each node of a plan, clients, their history, and somebody who looks on."""

    def __init__(self, sizes, members, ranges, lazy):
        self.plan = Plan(sizes, members, ranges, lazy)
        self.bag = Bag()
        self.stations = {
            endpoint_of(cell, index): Station(cell, index, self.plan)
            for cell, size in enumerate(sizes, 1) for index in range(size)
        }
        self.clients = [Client(ranges) for _ in range(CLIENTS)]
        self.history = History()
        self.onlooker = Onlooker(self.plan)
        self.movers = 0
        self.rounds = 0

    def deliver(self, number):
        """Let the receiver of a message take it. Raise NoMessage, LinkCut, and for a node NodeGone, NodeDown."""
        sender, receiver, body = self.bag.message(number)
        if self.bag.is_cut(number):
            raise LinkCut("the link of the message is cut")
        if is_client(receiver):
            self.bag.take(number)
            self._answer(receiver, body)
        else:
            station = self._running(receiver)
            self.bag.take(number)
            station.receive(sender, body)
            self._end_step(station)

    def drop(self, number):
        """Lose a message. Raise NoMessage."""
        self.bag.drop(number)

    def double(self, number):
        """Send a message once more; return the number of the new one. Raise NoMessage."""
        return self.bag.double(number)

    def cut(self, sender, receiver):
        """Cut a link. Raise NoNode if one of the two is no node and no client."""
        self._check_endpoints(sender, receiver)
        self.bag.cut(sender, receiver)

    def heal(self, sender, receiver):
        """Let a link be there. Raise NoNode if one of the two is no node and no client."""
        self._check_endpoints(sender, receiver)
        self.bag.heal(sender, receiver)

    def tick(self, endpoint):
        """Let a station tick. Raise NoNode, NodeGone, NodeDown."""
        station = self._running(endpoint)
        station.tick()
        self._end_step(station)

    def sync(self, endpoint):
        """Let a node sync. Raise NoNode, NodeGone, NodeDown."""
        station = self._running(endpoint)
        station.node.sync()
        self._end_step(station)

    def crash(self, endpoint, count):
        """Let a node crash. Raise NoNode, NodeGone, NodeDown, then OutOfRange if the count is too great."""
        station = self._running(endpoint)
        if count > MOST_LEFT:
            raise OutOfRange("the count is too great")
        station.node.crash(count)
        self._lose(station)

    def restart(self, endpoint):
        """Let a node come back. Raise NoNode, NodeGone, then NodeUp."""
        station = self._standing(endpoint)
        if station.node.state == UP:
            raise NodeUp("the node is up")
        station.restart()
        self._end_step(station)

    def wipe(self, endpoint):
        """Let a node be gone. Raise NoNode, NodeGone."""
        station = self._standing(endpoint)
        station.node.wipe()
        self._lose(station)

    def members(self, endpoint, members):
        """Offer members to a node; return whether it took them. Raise NoNode, NodeGone, NodeDown, OutOfRange."""
        station = self._running(endpoint)
        if not is_members(members, station.node.size):
            raise OutOfRange("these are no members among the nodes of the cell")
        took = station.node.offer_members(members)
        self._end_step(station)
        return took

    def give(self, endpoint, bounds, target):
        """Offer to a node to hand a range over; return the mover, or None if it was not taken.

        Raise NoNode, NodeGone, NodeDown, OutOfRange.
        """
        station = self._running(endpoint)
        if not _are_bounds(bounds):
            raise OutOfRange("these are no bounds of a range with keys")
        if target == station.cell or not 1 <= target <= len(self.plan.sizes):
            raise OutOfRange("the target is no other cell")
        start, end = bounds
        mover = self.movers + 1
        took = station.node.offer(("give", mover, start, end, target))
        self._end_step(station)
        if not took:
            return None
        self.movers = mover
        return mover

    def call(self, client, deal, index):
        """Let a client ask for a deal; return the number of the call. Raise NoClient, NotDeal, CallOpen."""
        asking = self._client(client)
        if not is_deal(deal):
            raise NotDeal("this is no deal")
        if asking.call is not None:
            raise CallOpen("the client has an open call")
        asking.begin(deal)
        self.history.ask(client, asking.number, deal)
        self._send_request(client, index)
        return asking.number

    def again(self, client, index):
        """Let a client ask once more for what is open. Raise NoClient, NoCall."""
        if self._client(client).call is None:
            raise NoCall("the client has no open call")
        self._send_request(client, index)

    def calm(self, rounds):
        """Let so many kind rounds go by. Raise OutOfRange if there are too many."""
        if rounds > MOST_ROUNDS:
            raise OutOfRange("there are too many rounds")
        for _ in range(rounds):
            self._kind_round()

    def perform(self, call):
        """Do a call that is told by a tuple; return what it returns. Raise OutOfRange if it is none, or as it does."""
        check_call(call)
        word, *told = call
        if word in ("deliver", "drop", "double", "cut", "heal"):
            return self._perform_on_bag(word, told)
        if word in ("call", "again", "calm"):
            return self._perform_for_clients(word, told)
        return self._perform_at_node(word, told)

    def _perform_on_bag(self, word, told):
        if word == "deliver":
            return self.deliver(*told)
        if word == "drop":
            return self.drop(*told)
        if word == "double":
            return self.double(*told)
        if word == "cut":
            return self.cut(*told)
        return self.heal(*told)

    def _perform_for_clients(self, word, told):
        if word == "call":
            return self.call(*told)
        if word == "again":
            return self.again(*told)
        return self.calm(*told)

    def _perform_at_node(self, word, told):
        if word == "tick":
            return self.tick(*told)
        if word == "sync":
            return self.sync(*told)
        if word == "crash":
            return self.crash(*told)
        if word == "restart":
            return self.restart(*told)
        if word == "wipe":
            return self.wipe(*told)
        if word == "members":
            return self.members(*told)
        endpoint, start, end, target = told
        return self.give(endpoint, (start, end), target)

    def _station(self, endpoint):
        if endpoint not in self.stations:
            raise NoNode("there is no such node")
        return self.stations[endpoint]

    def _standing(self, endpoint):
        station = self._station(endpoint)
        if station.node.state == GONE:
            raise NodeGone("the node is gone")
        return station

    def _running(self, endpoint):
        station = self._standing(endpoint)
        if station.node.state == DOWN:
            raise NodeDown("the node is down")
        return station

    def _check_endpoints(self, sender, receiver):
        for endpoint in (sender, receiver):
            if not is_client(endpoint):
                self._station(endpoint)

    def _client(self, client):
        if not is_client(client):
            raise NoClient("there is no such client")
        return self.clients[client]

    def _answer(self, client, body):
        _, number, answer = body
        if self.clients[client].hear(number, answer):
            self.history.close(client, number, answer)

    def _send_request(self, client, index):
        call = self.clients[client].call
        receiver = endpoint_of(call.home, index % self.plan.sizes[call.home - 1])
        self.bag.send(client, receiver, call.request())

    def _lose(self, station):
        """Behind a crash or a wipe, nothing is sent, but what was synced of the votes is seen."""
        station.forget()
        self._end_step(station)

    def _end_step(self, station):
        for receiver, body in station.outgoing():
            self.bag.send(station.endpoint, receiver, body)
        self.onlooker.see(station.cell, station.node.index, station.node.new_votes())

    def _kind_round(self):
        for endpoint in self._endpoints_up():
            self.sync(endpoint)
        for number in self.bag.numbers():
            self._deliver_or_drop(number)
        for endpoint in self._endpoints_up():
            self.tick(endpoint)
        self.rounds += 1
        if self.rounds % ROUNDS_OF_REQUEST == 0:
            self._send_requests(self.rounds // ROUNDS_OF_REQUEST)

    def _endpoints_up(self):
        return [endpoint for endpoint in sorted(self.stations) if self.stations[endpoint].node.state == UP]

    def _deliver_or_drop(self, number):
        try:
            self.deliver(number)
        except (LinkCut, NodeGone, NodeDown):
            self.drop(number)

    def _send_requests(self, index):
        for client in range(CLIENTS):
            if self.clients[client].call is not None:
                self._send_request(client, index)


def _are_bounds(data):
    """Return True if data is a pair of the bounds of a range, the start below the end, otherwise False."""
    if not isinstance(data, tuple) or len(data) != 2:
        return False
    start, end = data
    return is_range(start, end) and (end is None or start < end)
