"""Worlds for the tests: drawn plans and calls, and what holds of worlds at each moment and when they turn kind."""

from crosskeep.errors import CrossError
from crosskeep.judge.explain import fault_of, store_behind
from crosskeep.judge.replay import replay_of, servers_of, whole_rows
from crosskeep.voting.ballots import more_than_half
from crosskeep.world.endpoints import cell_at, index_at
from crosskeep.world.world import World
from samples import some_deal

KEYS = ("a", "c", "e", "h", "k", "p", "s", "z")
BOUNDS = ("", "b", "c", "d", "h", "i", "p", "q", "zz", None)
PROBES = sorted(set(KEYS + BOUNDS[1:-1]))

WEIGHTS = {
    "deliver": 30, "drop": 1, "double": 2, "cut": 0.2, "heal": 0.6, "tick": 12, "sync": 10, "crash": 0.6, "restart": 2,
    "wipe": 0.05, "members": 0.4, "give": 1.2, "call": 6, "again": 2, "calm": 2.5,
}
ROUGH = {**WEIGHTS, "drop": 5, "double": 8, "crash": 3, "restart": 3, "calm": 1, "wipe": 0.1, "members": 1}
MOVING = {**WEIGHTS, "give": 6, "members": 2, "calm": 5, "cut": 0}

ONE_CELL = ((1,), ((0,),), (("", 1),), False)
TWO_CELLS = ((1, 1), ((0,), (0,)), (("", 1), ("m", 2)), False)
THREE_NODES = ((3, 1), ((0, 1, 2), (0,)), (("", 1), ("m", 2)), False)
LAZY = ((1, 1), ((0,), (0,)), (("", 1), ("m", 2)), True)


def puts(*pairs):
    return ((), tuple(("put", key, value) for key, value in pairs))


def bodies(world):
    """A list of all messages in the bag, by their numbers."""
    return [world.bag.message(number) for number in world.bag.numbers()]


def send(world, sender, receiver, body):
    """Send a message and deliver it at once."""
    world.deliver(world.bag.send(sender, receiver, body))


def some_plan(random):
    cells = random.randint(1, 4)
    sizes = tuple(random.randint(1, 5) for _ in range(cells))
    members = tuple(tuple(sorted(random.sample(range(size), random.randint(1, size)))) for size in sizes)
    starts = [""] + sorted(random.sample(BOUNDS[1:-1], random.randrange(6)))
    return (sizes, members, tuple((start, random.randint(1, cells)) for start in starts), random.random() < 0.5)


class Walk:
    """A world to which anything happens. It keeps the calls, with what each returned, or None if it was refused."""

    def __init__(self, random, kind=True, plan=None):
        self.random = random
        # Whether nodes are only wiped, and members only offered, as point [98] needs it.
        self.kind = kind
        self.plan = plan or some_plan(random)
        self.world = World(*self.plan)
        self.calls = []
        self.outcomes = []
        self.errors = []
        self.took = [(cell, members) for cell, members in enumerate(self.plan[1], 1)]
        self.order = []

    def perform(self, call):
        self.calls.append(call)
        try:
            self.outcomes.append((True, self.world.perform(call)))
        except CrossError as error:
            self.errors.append(type(error).__name__)
            self.outcomes.append((False, None))
        if call[0] == "members" and self.outcomes[-1] == (True, True):
            self.took.append((cell_at(call[1]), call[2]))

    def step(self, weights):
        call = self.some_call(weights)
        if call is not None:
            self.perform(call)

    def some_call(self, weights):
        random = self.random
        word = random.choices(list(weights), list(weights.values()))[0]
        endpoint = random.choice(list(self.world.stations))
        if word in ("deliver", "drop", "double"):
            numbers = self.world.bag.numbers()
            return (word, random.choice(numbers)) if numbers else None
        if word in ("cut", "heal"):
            return (word,) + tuple(random.choices(list(self.world.stations) + [0, 1, 2, 3], k=2))
        if word in ("tick", "sync"):
            return (word, endpoint)
        if word == "crash":
            return (word, endpoint, random.choice((0, 0, 7, 30, 90, 10 ** 6)))
        if word == "restart":
            down = [endpoint for endpoint, station in self.world.stations.items() if station.node.state == "down"]
            return (word, random.choice(down)) if down else None
        if word == "wipe":
            return (word, endpoint) if self.may_wipe(endpoint) else None
        if word == "members":
            return self.some_members(endpoint)
        return self.some_call_of_a_client(word, endpoint)

    def some_call_of_a_client(self, word, endpoint):
        random = self.random
        if word == "give":
            start, end = sorted(random.sample(range(len(BOUNDS)), 2))
            target = random.randint(1, len(self.plan[0]))
            return (word, endpoint, BOUNDS[start], BOUNDS[end], target)
        if word == "call":
            return (word, random.randrange(4), some_deal(random, KEYS, {}), random.randrange(9))
        if word == "again":
            return (word, random.randrange(4), random.randrange(9))
        return (word, random.randrange(4))

    def some_members(self, endpoint):
        size = self.plan[0][cell_at(endpoint) - 1]
        members = tuple(sorted(self.random.sample(range(size), self.random.randint(1, size))))
        left = self.left(cell_at(endpoint))
        return ("members", endpoint, members) if not self.kind or more_than_half(members, left) else None

    def left(self, cell):
        return [station.node.index for station in self.world.stations.values()
                if station.cell == cell and station.node.state != "gone"]

    def may_wipe(self, endpoint):
        rest = [index for index in self.left(cell_at(endpoint)) if index != index_at(endpoint)]
        lists = [members for cell, members in self.took if cell == cell_at(endpoint)]
        return not self.kind or all(more_than_half(members, rest) for members in lists)

    def turn_kind(self):
        for sender, receiver in self.world.bag.links():
            self.perform(("heal", sender, receiver))
        for endpoint, station in self.world.stations.items():
            if station.node.state == "down":
                self.perform(("restart", endpoint))

    def fault(self):
        """What does not hold at this moment of points [8], [95], [96] and [97], or None."""
        replay = replay_of(self.world)
        history = self.world.history.rows()
        if fault_of(history, replay.order) is not None:
            return fault_of(history, replay.order)
        if replay.order[:len(self.order)] != self.order:
            return ("shrunk", self.order, replay.order)
        self.order = replay.order
        for key in PROBES:
            if len(servers_of(replay.keepers, key)) != 1:
                return ("served", key)
        if whole_rows(replay.keepers) != store_behind(history, replay.order).rows:
            return ("rows", whole_rows(replay.keepers))
        return None


def things_of(world):
    """How much there is to do in a world, as point [98] counts it."""
    nodes = [station.node for station in world.stations.values() if station.node.state == "up"]
    keepers = [node.machine for node in nodes]
    many = sum(len(node.waiting) + (node.wanted is not None or node.attempt is not None) for node in nodes)
    for cell in range(1, len(world.plan.sizes) + 1):
        uptos = [station.node.upto for station in world.stations.values() if station.cell == cell]
        many += max(uptos) - min(uptos)
    open_calls = sum(client.call is not None for client in world.clients)
    return many + 6 * (open_calls + sum(
        len(keeper.home_rows()) + len(keeper.hold_rows()) + len(keeper.leaving_rows()) for keeper in keepers))


def unrest_of(world):
    """The first thing that point [98] promises to be over and that is not, or None."""
    if any(client.call is not None for client in world.clients):
        return "calls"
    rows = {}
    for endpoint, station in world.stations.items():
        node, keeper = station.node, station.node.machine
        if node.state == "gone":
            continue
        if node.waiting or node.wanted is not None:
            return ("waits", endpoint)
        if keeper.lock_rows() or keeper.hold_rows() or keeper.home_rows() or keeper.leaving_rows():
            return ("held", endpoint)
        if any(piece[2] == "leaving" for piece in keeper.piece_rows()):
            return ("leaving", endpoint)
        if rows.setdefault(station.cell, node.record.row) != node.record.row:
            return ("rows", endpoint)
    return None
