"""Indexes, members and ballots (points [32] and [33])."""

from crosskeep.data.integers import is_number

NO_BALLOT = (0, 0)
MOST_ROUND = 9999
MOST_MEMBERS = 5
MOST_INDEX = 6


def is_members(members, size):
    """Return True if data is a tuple of members, all of them below size, otherwise False."""
    if not isinstance(members, tuple) or not all([is_number(index) for index in members]):
        return False
    if not 1 <= len(members) <= MOST_MEMBERS or list(members) != sorted(set(members)):
        return False
    return all([index <= MOST_INDEX and index < size for index in members])


def more_than_half(members, indexes):
    """Return True if the indexes, perhaps with some twice, are more than half of the members, otherwise False."""
    return 2 * len([member for member in members if member in indexes]) > len(members)


def next_ballot(after, index):
    """Return the next ballot of an index behind a round, or None if there is none."""
    if after >= MOST_ROUND:
        return None
    return (after + 1, index)
