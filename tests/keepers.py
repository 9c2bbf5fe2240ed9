"""Keepers for the tests: what can be seen of them, and the commands and letters of a small plan."""

import unittest

from crosskeep.data.deals import keys_of
from crosskeep.data.parts import part_of
from crosskeep.keeper.keeper import Keeper

# The keys a to g are those of cell 1, h to o those of cell 2, and p to z those of cell 3.
RANGES = (("", 1), ("h", 2), ("p", 3))
CLIENTS = range(4)
NUMBERS = range(12)
MOVERS = range(12)


def owner_of(key):
    return [cell for start, cell in RANGES if start <= key][-1]


def new_keeper(cell=1, **rows):
    """A keeper that was told these rows by deals of client 3."""
    keeper = Keeper(cell, RANGES)
    for number, (key, value) in enumerate(sorted(rows.items()), 1):
        keeper.apply(deal_of(3, number, puts((key, value))))
    return keeper


def puts(*pairs):
    return ((), tuple(("put", key, value) for key, value in pairs))


def gets(*keys):
    return ((), tuple(("get", key) for key in keys))


def deal_of(client, number, deal, **believed):
    """The command of a deal whose keys are believed to be where the plan has them, but for those that are named."""
    return ("deal", client, number, deal, tuple((key, believed.get(key, owner_of(key))) for key in keys_of(deal)))


def lock_of(home, client, number, deal, cell):
    """The command that locks the part of a deal at a cell of the plan."""
    return ("lock", home, client, number, part_of(deal, [key for key in keys_of(deal) if owner_of(key) == cell]))


def seen(keeper):
    """All that can be seen of a keeper."""
    return {
        "orders": keeper.orders(),
        "answers": {(client, number): keeper.answer_of(client, number) for client in CLIENTS for number in NUMBERS
                    if keeper.answer_of(client, number) is not None},
        "verdicts": {(client, number): keeper.verdict_of(client, number) for client in CLIENTS for number in NUMBERS
                     if keeper.verdict_of(client, number) is not None},
        "writes": {(client, number): keeper.writes_of(client, number) for client in CLIENTS for number in NUMBERS
                   if keeper.writes_of(client, number) != ()},
        "pieces": keeper.piece_rows(),
        "rows": keeper.key_rows(),
        "locks": keeper.lock_rows(),
        "holds": keeper.hold_rows(),
        "homes": keeper.home_rows(),
        "leaving": keeper.leaving_rows(),
        "took": [mover for mover in MOVERS if keeper.took(mover)],
        "refused": [mover for mover in MOVERS if keeper.refused(mover)],
        "decided": keeper.decided_rows(),
    }


def dump(data):
    """All that an object holds, also what cannot be seen from outside."""
    if isinstance(data, (list, tuple)):
        return tuple(dump(item) for item in data)
    if isinstance(data, dict):
        return tuple(sorted((key, dump(item)) for key, item in data.items()))
    if hasattr(data, "__dict__"):
        return dump(vars(data))
    return data


def answer(client, number, told):
    return ("client", client, ("answer", number, told))


def verdict(home, client, number, cell, told):
    return ("cell", home, ("locked", client, number, cell, told))


class KeeperCase(unittest.TestCase):
    def check_settled(self, keeper, command, letters=()):
        """The command changes nothing, also nothing that cannot be seen, and has these letters."""
        before = dump(keeper)
        self.assertIs(keeper.settled(command), True, command)
        self.assertEqual(keeper.apply(command), list(letters), command)
        self.assertEqual(dump(keeper), before, command)

    def do(self, keeper, command, letters=()):
        """The command changes something, has these letters, and nothing to do any more behind that."""
        before = dump(keeper)
        self.assertIs(keeper.settled(command), False, command)
        self.assertEqual(dump(keeper), before, command)
        self.assertEqual(keeper.apply(command), list(letters), command)
        self.assertNotEqual(dump(keeper), before, command)
        self.assertIs(keeper.settled(command), True, command)
