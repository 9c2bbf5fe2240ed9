"""Replays: what the chosen commands make of the keepers of a world, and its order (points [91] and [92])."""

from crosskeep.data.parts import write_rows
from crosskeep.keeper.keeper import Keeper
from crosskeep.keeper.pieces import LEAVING, OWN


class Replay:
    """A keeper for each cell, and the tuples (client, number, answer) of the deals that were decided, in order."""

    def __init__(self, ranges, cells):
        self.keepers = [Keeper(cell, ranges) for cell in range(1, cells + 1)]
        self.order = []

    def apply(self, cell, command):
        """Apply a chosen command of a cell."""
        keeper = self.keepers[cell - 1]
        before = len(keeper.decided_rows())
        keeper.apply(command)
        self.order.extend(keeper.decided_rows()[before:])


def replay_of(world):
    """Return the Replay of a world."""
    replay = Replay(world.plan.ranges, len(world.plan.sizes))
    for cell, command in world.onlooker.commands():
        replay.apply(cell, command)
    return replay


def servers_of(keepers, key):
    """Return the list of the cells whose piece serves the key, ascending."""
    return [cell for cell, keeper in enumerate(keepers, 1) if _serves(keepers, keeper, key)]


def whole_rows(keepers):
    """Return a dict, the whole rows of a list of keepers."""
    rows = {}
    for keeper in keepers:
        for key, value in keeper.key_rows():
            if _serves(keepers, keeper, key):
                rows[key] = value
    for keeper in keepers:
        for client, number, home in keeper.hold_rows():
            if _is_done(keepers[home - 1], client, number):
                write_rows(rows, keeper.writes_of(client, number))
    return rows


def _serves(keepers, keeper, key):
    start, end, state, epoch, target = keeper.piece_row_at(key)
    if state == LEAVING:
        # As long as the target has a lesser epoch, it did not take the piece.
        return keepers[target - 1].epoch_at(key) < epoch
    return state == OWN


def _is_done(home_keeper, client, number):
    """Return True if there is a home deal of this name whose outcome is "done", otherwise False."""
    outcomes = [row[2] for row in home_keeper.home_rows() if row[:2] == (client, number)]
    return any([outcome is not None and outcome[0] == "done" for outcome in outcomes])
