"""Plans: the cells of a world, their nodes, and the ranges that they have at first (point [80])."""

from crosskeep.data.integers import is_integer
from crosskeep.data.keys import is_range
from crosskeep.errors import OutOfRange
from crosskeep.voting.ballots import is_members
from crosskeep.world.endpoints import MOST_CELLS

MOST_SIZE = 7
MOST_RANGES = 8


class Plan:
    """The sizes and the first members of the cells, the ranges, and whether the nodes are lazy."""

    def __init__(self, sizes, members, ranges, lazy):
        if not _are_sizes(sizes):
            raise OutOfRange("these are no sizes of cells")
        if not _are_first_members(members, sizes):
            raise OutOfRange("these are no first members of the cells")
        if not _are_ranges(ranges, len(sizes)):
            raise OutOfRange("these are no ranges of the cells")
        if not isinstance(lazy, bool):
            raise OutOfRange("nodes are lazy or not")
        self.sizes = sizes
        self.members = members
        self.ranges = ranges
        self.lazy = lazy


def _are_sizes(data):
    if not isinstance(data, tuple) or not 1 <= len(data) <= MOST_CELLS:
        return False
    return all([_is_from_one(size, MOST_SIZE) for size in data])


def _are_first_members(data, sizes):
    if not isinstance(data, tuple) or len(data) != len(sizes):
        return False
    return all([is_members(members, size) for members, size in zip(data, sizes)])


def _are_ranges(data, cells):
    if not isinstance(data, tuple) or not 1 <= len(data) <= MOST_RANGES:
        return False
    if not all([_is_start_with_cell(pair, cells) for pair in data]):
        return False
    starts = [start for start, cell in data]
    return starts[0] == "" and starts == sorted(set(starts))


def _is_start_with_cell(data, cells):
    if not isinstance(data, tuple) or len(data) != 2:
        return False
    start, cell = data
    return is_range(start, None) and _is_from_one(cell, cells)


def _is_from_one(data, most):
    return is_integer(data) and 1 <= data <= most
