"""Votes: what they choose, on which grounds, and whether they are lawful (points [36] and [37])."""

from crosskeep.voting.ballots import more_than_half


def choice_of(members, votes):
    """Return the entry that the votes choose, or None if there is none."""
    grounds = grounds_of(members, votes)
    return None if grounds is None else grounds[1]


def grounds_of(members, votes):
    """Return the tuple (ballot, entry, indexes) of the choice, or None if there is none."""
    told = _by_ballot(members, votes)
    for ballot in sorted(told):
        for _, entry in told[ballot]:
            voters = sorted(set([index for index, other in told[ballot] if other == entry]))
            if more_than_half(members, voters):
                return (ballot, entry, tuple(voters))
    return None


def are_grounds(members, votes, grounds):
    """Return True if the votes are lawful and these are grounds for what they choose, otherwise False."""
    ballot, entry, indexes = grounds
    if list(indexes) != [member for member in members if member in indexes]:
        return False
    if not more_than_half(members, indexes) or unlawful_ballot(members, votes) is not None:
        return False
    return all([(index, ballot, entry) in votes for index in indexes])


def unlawful_ballot(members, votes):
    """Return the least ballot that is not as lawful votes need it, or None if the votes are lawful."""
    told = _by_ballot(members, votes)
    last = {}
    for ballot in sorted(told):
        entry = told[ballot][0][1]
        if any([other != entry for index, other in told[ballot]]) or not _may_follow(members, told, last, entry):
            return ballot
        for index, _ in told[ballot]:
            last[index] = ballot
    return None


def _may_follow(members, told, last, entry):
    """Return True if more than half of the members let the entry come behind the last ballots of their votes."""
    if more_than_half(members, [member for member in members if member not in last]):
        return True
    for ballot in list(last.values()):
        # Whoever voted later than this would make another ballot the greatest one, so they are left out.
        until = [member for member in members if member not in last or last[member] <= ballot]
        if told[ballot][0][1] == entry and more_than_half(members, until):
            return True
    return False


def _by_ballot(members, votes):
    """Return a dict from the ballots of the members' votes to lists of the pairs (index, entry)."""
    told = {}
    for index, ballot, entry in votes:
        if index in members:
            told.setdefault(ballot, []).append((index, entry))
    return told
