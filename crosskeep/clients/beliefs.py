"""Beliefs: which cell a client takes each key to have, and with which epoch (point [76])."""

from crosskeep.data.keys import is_within, key_in, with_ends


def first_beliefs(ranges):
    """Return the beliefs of a new client."""
    return [(start, end, cell, 1) for start, end, cell in with_ends(ranges)]


def cell_of(beliefs, key):
    """Return the cell that is believed to have the key."""
    return [cell for start, end, cell, epoch in beliefs if key_in(key, start, end)][0]


def learned(beliefs, hint):
    """Return a new list, the beliefs behind a hint."""
    low, high = hint[0], hint[1]
    return [_row_behind(row, hint) for row in _cut(_cut(beliefs, low), high)]


def places_of(beliefs, names):
    """Return a tuple of the pairs (key, cell) for a list or tuple of keys, in its order."""
    return tuple([(key, cell_of(beliefs, key)) for key in names])


def _cut(beliefs, bound):
    """Return the beliefs with the row cut within which this bound lies, if there is one."""
    if bound is None:
        return list(beliefs)
    rows = []
    for start, end, cell, epoch in beliefs:
        if start < bound and (end is None or bound < end):
            rows.extend([(start, bound, cell, epoch), (bound, end, cell, epoch)])
        else:
            rows.append((start, end, cell, epoch))
    return rows


def _row_behind(row, hint):
    start, end, _, epoch = row
    low, high, told_cell, told_epoch = hint
    if epoch < told_epoch and is_within(start, end, low, high):
        return (start, end, told_cell, told_epoch)
    return row
