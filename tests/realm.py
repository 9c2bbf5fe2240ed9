"""Keepers of several cells for the tests: letters that are lost, doubled and late, clients, and a plain store."""

from crosskeep.clients.client import Client
from crosskeep.clients.history import History
from crosskeep.data.keys import key_in
from crosskeep.data.store import Store
from crosskeep.keeper.keeper import Keeper
from keepers import dump
from samples import some_deal

KEYS = ("a", "c", "e", "h", "k", "p", "s", "z")
BOUNDS = ("", "b", "c", "d", "h", "i", "p", "q", "zz", None)
PROBES = sorted(set(KEYS + BOUNDS[1:-1]))


def some_ranges(random, cells):
    starts = [""] + sorted(random.sample(BOUNDS[1:-1], random.randrange(8)))
    return tuple((start, random.randint(1, cells)) for start in starts)


class Realm:
    """Keepers, clients, and all letters that are on their way. The plain store does what is decided."""

    def __init__(self, random, cells):
        self.random = random
        self.ranges = some_ranges(random, cells)
        self.keepers = {cell: Keeper(cell, self.ranges) for cell in range(1, cells + 1)}
        self.clients = [Client(self.ranges) for _ in range(4)]
        self.history = History()
        self.post = []
        self.movers = 0
        self.deals = {}
        # The names of the deals whose keys were believed to be at several cells.
        self.wide = []
        self.store = Store()
        self.decided = {}
        self.faults = []

    def apply(self, cell, command):
        keeper = self.keepers[cell]
        before, count = dump(keeper), len(keeper.decided_rows())
        settled = keeper.settled(command)
        self.post.extend(keeper.apply(command))
        if settled != (dump(keeper) == before):
            self.faults.append(("settled", cell, command))
        for client, number, answer in keeper.decided_rows()[count:]:
            if (client, number) in self.decided or self.store.do(self.deals[(client, number)]) != answer:
                self.faults.append(("decided", client, number, answer))
            self.decided[(client, number)] = answer

    def take(self, letter):
        word, receiver, body = letter
        if word == "cell":
            self.apply(receiver, body)
        elif self.clients[receiver].hear(body[1], body[2]):
            self.history.close(receiver, body[1], body[2])
            if body[2][0] in ("done", "unheld") and self.decided.get((receiver, body[1])) != body[2]:
                self.faults.append(("answered", receiver, body[1], body[2]))

    def deliver(self):
        # What is delivered may stay on its way, to come again at any time.
        if self.post:
            place = self.random.randrange(len(self.post))
            self.take(self.post[place] if self.random.random() < 0.25 else self.post.pop(place))

    def drop(self):
        if self.post:
            self.post.pop(self.random.randrange(len(self.post)))

    def ask(self, deal=None):
        client = self.random.randrange(4)
        if self.clients[client].call is None:
            self.begin(client, deal or some_deal(self.random, KEYS, self.store.rows))

    def begin(self, client, deal):
        self.clients[client].begin(deal)
        name = (client, self.clients[client].number)
        self.deals[name] = deal
        if len({cell for _, cell in self.clients[client].call.places}) > 1:
            self.wide.append(name)
        self.history.ask(client, self.clients[client].number, deal)
        self.send_request(client)

    def again(self):
        client = self.random.randrange(4)
        if self.clients[client].call is not None:
            self.send_request(client)

    def send_request(self, client):
        call = self.clients[client].call
        self.post.append(("cell", call.home, ("deal", client) + call.request()[1:]))

    def give(self):
        if len(self.keepers) > 1:
            source, target = self.random.sample(sorted(self.keepers), 2)
            start, end = sorted(self.random.sample(range(len(BOUNDS)), 2))
            self.movers += 1
            self.post.append(("cell", source, ("give", self.movers, BOUNDS[start], BOUNDS[end], target)))

    def orders(self):
        self.post.extend(self.random.choice(list(self.keepers.values())).orders())

    def step(self, weights):
        getattr(self, self.random.choices(list(weights), list(weights.values()))[0])()

    def kind_round(self):
        letters, self.post = self.post, []
        for letter in letters:
            self.take(letter)
        for keeper in self.keepers.values():
            self.post.extend(keeper.orders())
        for client in range(4):
            if self.clients[client].call is not None:
                self.send_request(client)

    def is_served_by(self, cell, piece):
        """Point [75]: the piece is own, or leaving by a mover that was not taken."""
        start, end, state, epoch, target = piece
        if state != "leaving":
            return state == "own"
        brought = {letter[2][2]: letter[2][3] for letter in self.keepers[cell].orders() if letter[2][0] == "take"}
        movers = [mover for mover, pieces in brought.items() for low, high, told, _ in pieces
                  if told == epoch and low <= start and (high is None or (end is not None and end <= high))]
        return len(movers) == 1 and not self.keepers[target].took(movers[0])

    def whole_rows(self):
        """What the cells have, as if the parts of done deals that are still held were ended; or a fault."""
        rows, served = {}, {}
        for cell, keeper in self.keepers.items():
            pieces = keeper.piece_rows()
            held = dict(keeper.key_rows())
            for client, number, _ in keeper.hold_rows():
                if self.decided.get((client, number), ("open",))[0] == "done":
                    held.update(keeper.writes_of(client, number))
            for piece in pieces:
                there = [key for key in held if key_in(key, piece[0], piece[1])]
                if piece[2] == "away" and there:
                    return ("away", cell, there)
                if self.is_served_by(cell, piece):
                    rows.update({key: held[key] for key in there if held[key] is not None})
                    for key in PROBES:
                        if key_in(key, piece[0], piece[1]):
                            served.setdefault(key, []).append(cell)
        if sorted(served) != PROBES or any(len(cells) != 1 for cells in served.values()):
            return ("served", served)
        return rows

    def fault(self):
        """What does not hold of point [75], or None."""
        if self.faults:
            return self.faults[0]
        rows = self.whole_rows()
        return None if rows == self.store.rows else (rows, self.store.rows)

    def unrest(self):
        """What there still is to do at the keepers and for the clients."""
        return [told for keeper in self.keepers.values()
                for told in keeper.lock_rows() + keeper.hold_rows() + keeper.home_rows() + keeper.leaving_rows()
                + keeper.orders() + [row for row in keeper.piece_rows() if row[2] == "leaving"]
                ] + [client.call for client in self.clients if client.call is not None]
