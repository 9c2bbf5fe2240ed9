"""Entries of a row: batches of commands, and members (point [40])."""

MOST_BATCH = 8
MOST_WAITING = 16
MOST_GIVEN = 30

BATCH = "batch"
MEMBERS = "members"


def members_of_slot(first_members, row, slot):
    """Return the members of a slot from 1 to the length of the row and 1."""
    for place in reversed(range(slot - 1)):
        word, told = row[place]
        if word == MEMBERS:
            return told
    return first_members


def batch_of(commands):
    """Return the entry with the first commands of a list that is not empty, at most 8."""
    return (BATCH, tuple(commands[:MOST_BATCH]))


def commands_of(entry):
    """Return a list of the commands of an entry; it is empty for members."""
    word, told = entry
    return list(told) if word == BATCH else []
