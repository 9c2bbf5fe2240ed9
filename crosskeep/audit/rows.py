"""Rows of votes: what the votes of a cell choose, slot by slot (point [106])."""

from crosskeep.ledger.entries import members_of_slot
from crosskeep.voting.votes import choice_of, unlawful_ballot


def row_of_votes(first_members, votes):
    """Return a pair: the row of votes, a list of entries, and the slot whose votes are a fault, or None."""
    by_slot = {}
    for slot, index, ballot, entry in votes:
        by_slot.setdefault(slot, []).append((index, ballot, entry))
    row = []
    # No row has more entries than there are slots with votes.
    for slot in range(1, len(by_slot) + 1):
        told = by_slot.get(slot, [])
        members = members_of_slot(first_members, row, slot)
        if unlawful_ballot(members, told) is not None:
            return row, slot
        entry = choice_of(members, told)
        if entry is None:
            break
        row.append(entry)
    return row, None
