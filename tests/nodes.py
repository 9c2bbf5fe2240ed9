"""Nodes for the tests, and all that can be seen of them."""

from crosskeep.ledger.diary import Diary
from crosskeep.ledger.node import Node
from crosskeep.packing.packs import unpack

FIRST = (0, 1, 2)


def batch(*names):
    return ("batch", tuple((name,) for name in names))


def new_node(index=1, size=3, first_members=FIRST, lazy=False):
    return Node(index, size, first_members, Diary, lazy)


def node_with(row, index=1, size=3, first_members=FIRST, lazy=False):
    """A node that was told these entries, and said nothing yet."""
    node = new_node(index, size, first_members, lazy)
    for slot, entry in enumerate(row, 1):
        node.receive((index + 1) % size, ("chosen", slot, entry))
    return node


def updates(node):
    return [unpack(payload) for payload in node.journal.payloads()]


def volatile(node):
    attempt = node.attempt
    return {
        "waiting": list(node.waiting),
        "wanted": node.wanted,
        "attempt": attempt and (attempt.ballot, attempt.entry, attempt.members, attempt.stage,
                                tuple(attempt.promised_by), tuple(attempt.voted_by), attempt.bound),
        "patience": node.patience,
        "guest": node.guest,
        "seen": node.seen,
        "lines": list(node.machine.lines),
    }


def everything(node):
    """All that can be seen of a node without asking it to tell what waits."""
    acceptor = node.record.acceptor
    return {
        **volatile(node),
        "state": node.state,
        "image": node.journal.image(),
        "synced": node.journal.synced_octets,
        "row": list(node.record.row),
        "upto": node.upto,
        "acceptor": (acceptor.promised, acceptor.accepted),
        "members": node.members_now,
        "made": (node.index, node.size, node.first_members, node.lazy),
    }


def first_volatile(index):
    return {"waiting": [], "wanted": None, "attempt": None, "patience": 6 + 2 * index, "guest": False, "seen": 0,
            "lines": []}


def to_all(body, size=3):
    return [(index, body) for index in range(size)]


def to_others(body, index=1, size=3):
    return [(other, body) for other in range(size) if other != index]
