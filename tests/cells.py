"""A cell of nodes for the tests: messages that are lost, doubled and late, crashes, and somebody who looks on."""

from crosskeep.ledger.diary import Diary
from crosskeep.ledger.node import Node
from crosskeep.ledger.tally import Tally
from crosskeep.packing.packs import unpack
from crosskeep.voting.ballots import more_than_half
from crosskeep.voting.votes import unlawful_ballot


def synced_updates(node):
    return [unpack(payload) for payload in node.journal.payloads()[:node.journal.synced_frames]]


def synced_row(node):
    return [update[2] for update in synced_updates(node) if update[0] == "chosen"]


class Cell:
    """Nodes, the messages on their way, and what was seen of their votes and letters."""

    def __init__(self, random, size, first_members, lazy=False, make_machine=Diary):
        self.random = random
        self.nodes = [Node(index, size, first_members, make_machine, lazy) for index in range(size)]
        self.bag = []
        self.tally = Tally(first_members)
        self.letters = []
        self.commands = 0
        # Each list of members that is in force, with the slot of its entry.
        self.in_force = [(0, first_members)]
        self.faults = []

    def living(self):
        return [node for node in self.nodes if node.state == "up"]

    def collect(self, node):
        """What is done behind each step of a node."""
        for receiver, body in node.sends():
            if not was_synced(node, body):
                self.faults.append((node.index, body))
            self.bag.append((node.index, receiver, body))
        self.letters.extend((node.index, letter) for letter in node.letters())
        for slot, ballot, entry in node.new_votes():
            self.tally.add(slot, node.index, ballot, entry)
        self.note_members()

    def note_members(self):
        last = max(slot for slot, _ in self.in_force)
        for slot, entry in list(enumerate(self.tally.row, 1))[last:]:
            if entry[0] == "members":
                self.in_force.append((slot, entry[1]))
        slots = [slot for slot, _ in self.in_force]
        kept = []
        for place, (slot, members) in enumerate(self.in_force):
            following = slots[place + 1] if place + 1 < len(slots) else None
            if following is None or not self.is_kept_by(self.in_force[place + 1][1], following):
                kept.append((slot, members))
        self.in_force = kept

    def is_kept_by(self, members, slot):
        keeping = [index for index in members if index < len(self.nodes) and self.nodes[index].state != "gone"
                   and len(synced_row(self.nodes[index])) >= slot]
        return more_than_half(members, keeping)

    def may_wipe(self, node):
        rest = [other.index for other in self.nodes if other.state != "gone" and other.index != node.index]
        return all(more_than_half(members, rest) for _, members in self.in_force)

    def deliver(self, place):
        sender, receiver, body = self.bag.pop(place)
        node = self.nodes[receiver]
        if node.state == "up":
            node.receive(sender, body)
            self.collect(node)

    def offer(self, node):
        self.commands += 1
        name = ("c", self.random.randrange(self.commands + 1))
        node.offer(name)
        self.collect(node)

    def offer_members(self, node):
        members = self.random.sample(range(node.size), self.random.randint(1, min(5, node.size)))
        node.offer_members(tuple(sorted(members)))
        self.collect(node)

    def crash(self, node):
        node.crash(self.random.choice((0, 0, 7, 20, 40, 90, 10 ** 6)))
        self.collect(node)

    def step(self, weights, wipes=False):
        """Let anything happen."""
        word = self.random.choices(list(weights), list(weights.values()))[0]
        node = self.random.choice(self.nodes)
        if word in ("deliver", "drop", "double"):
            if self.bag:
                self.move(word)
        elif word == "restart":
            if node.state == "down":
                node.restart()
                self.collect(node)
        elif word == "wipe":
            if node.state != "gone" and (wipes or self.may_wipe(node)):
                node.wipe()
                self.collect(node)
        elif node.state == "up":
            if word in ("tick", "sync"):
                getattr(node, word)()
                self.collect(node)
            else:
                getattr(self, word)(node)

    def move(self, word):
        # Late ones are as likely as new ones.
        place = self.random.randrange(len(self.bag))
        if word == "deliver":
            self.deliver(place)
        elif word == "drop":
            self.bag.pop(place)
        else:
            self.bag.append(self.bag[place])

    def kind_round(self):
        for node in self.living():
            node.sync()
            self.collect(node)
        messages, self.bag = self.bag, []
        for sender, receiver, body in messages:
            self.bag.insert(0, (sender, receiver, body))
            self.deliver(0)
        for node in self.living():
            node.tick()
            self.collect(node)

    def waits(self):
        return [node.index for node in self.living() if node.waiting or node.wanted is not None]


def was_synced(node, body):
    """Point [54]: what a message tells was synced at its sender."""
    done = synced_updates(node)
    row = [update[2] for update in done if update[0] == "chosen"]
    if body[0] == "ask":
        return ("promise",) + body[1:] in done
    if body[0] == "promise":
        return any(update[0] in ("promise", "accept") and update[1:3] == body[1:3] for update in done)
    if body[0] == "voted":
        return any(update[0] == "accept" and update[1:3] == body[1:3] for update in done)
    if body[0] == "chosen":
        return row[body[1] - 1:body[1]] == [body[2]]
    if body[0] == "give":
        return tuple(row[body[1] - 1:][:len(body[2])]) == body[2]
    return True


def is_beginning(first, second):
    short, long = sorted((first, second), key=len)
    return long[:len(short)] == short


def fault_of_cell(cell):
    """The first of the points [53], [54] that does not hold for a cell, or None."""
    rows = [node.record.row for node in cell.nodes]
    lines = {}
    for node in cell.nodes:
        if not is_beginning(node.record.row, cell.tally.row) or node.upto > len(cell.tally.row):
            return ("row", node.index, rows, cell.tally.row)
        if node.state == "up" and lines.setdefault(node.upto, node.machine.lines) != node.machine.lines:
            return ("machine", node.index)
    for slot in range(1, len(cell.tally.row) + 2):
        if unlawful_ballot(cell.tally.members_of(slot), cell.tally.votes_of(slot)) is not None:
            return ("unlawful", slot)
    return ("said", cell.faults[0]) if cell.faults else None


def lost_slot(cell):
    """The first slot of the tally's row whose entry no node has any more (point [56]), or None."""
    kept = [kept_entries(node) for node in cell.nodes if node.state != "gone"]
    for slot, entry in enumerate(cell.tally.row, 1):
        if not any(entries.get(slot) == entry for entries in kept):
            return slot
    return None


def kept_entries(node):
    entries = {}
    upto = 0
    for update in synced_updates(node):
        if update[0] == "chosen":
            upto = update[1]
            entries[upto] = update[2]
        elif update[0] == "accept" and update[1] > upto:
            entries[update[1]] = update[3]
    return entries
