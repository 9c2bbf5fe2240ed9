"""Audits: an order that explains the history, found by the votes of the cells alone (points [108] to [111])."""

from heapq import heapify, heappop, heappush

from crosskeep.audit.accesses import Trace
from crosskeep.audit.rows import row_of_votes
from crosskeep.judge.explain import ANSWERED, ASKED, fault_of


def audit(plan, votes, history):
    """Return a pair: the order, a list of tuples (client, number, answer), and None; or None and the first fault."""
    rows = []
    for cell, told in enumerate(votes, 1):
        row, slot = row_of_votes(plan.members[cell - 1], told)
        if slot is not None:
            return None, ("unlawful", cell, slot)
        rows.append(row)
    return _audit_of_traces([Trace(cell, plan.ranges, row) for cell, row in enumerate(rows, 1)], history)


def _audit_of_traces(traces, history):
    decided = [deal for trace in traces for deal in trace.keeper.decided_rows()]
    twice = _decided_twice(decided)
    if twice is not None:
        return None, ("twice",) + twice
    answers = {(client, number): answer for client, number, answer in decided}
    names = sorted_names(answers, _pairs_by_keys(traces, answers) + _pairs_by_time(history, answers))
    if names is None:
        return None, ("circle",)
    order = [name + (answers[name],) for name in names]
    fault = fault_of(history, order)
    return (order, None) if fault is None else (None, fault)


def sorted_names(names, pairs):
    """Return a list of the names, the least one first that none has to stand ahead of, or None if some are left."""
    ahead = {name: 0 for name in names}
    behind = {name: [] for name in names}
    for first, second in pairs:
        if first in ahead and second in ahead and first != second:
            ahead[second] += 1
            behind[first].append(second)
    free = [name for name in ahead if ahead[name] == 0]
    heapify(free)
    order = []
    while free:
        name = heappop(free)
        order.append(name)
        for other in behind[name]:
            ahead[other] -= 1
            if ahead[other] == 0:
                heappush(free, other)
    return order if len(order) == len(ahead) else None


def _decided_twice(decided):
    """Return the name of the first deal that was decided by two keepers, or None."""
    count = {}
    for client, number, _ in decided:
        count[(client, number)] = count.get((client, number), 0) + 1
    for client, number, _ in decided:
        if count[(client, number)] > 1:
            return (client, number)
    return None


def _pairs_by_keys(traces, answers):
    """Return the pairs of names of which the first one came to a key right ahead of the second one."""
    by_key = {}
    for trace in traces:
        for key, epoch, place, name in trace.accesses:
            if name in answers:
                by_key.setdefault(key, []).append((epoch, place, name))
    pairs = []
    for key in by_key:
        names = [name for epoch, place, name in sorted(by_key[key])]
        pairs.extend([(first, second) for first, second in zip(names, names[1:]) if first != second])
    return pairs


def _pairs_by_time(history, answers):
    """Return the pairs of names of which the first one was answered before the second one was asked.

    Those that follow from others are left out: there would be far too many.
    """
    records = [record for record in history if (record[0], record[1]) in answers]
    answered = sorted([(record[ANSWERED], record[ASKED], record[0], record[1])
                       for record in records if record[ANSWERED] is not None])
    pairs = []
    over = []
    reached = 0
    for asked, client, number in sorted([(record[ASKED], record[0], record[1]) for record in records]):
        while reached < len(answered) and answered[reached][0] < asked:
            over.append(answered[reached])
            reached += 1
        # Whoever was answered before another one of these was asked stands ahead of that one, and so of this one.
        last_asked = max([row[1] for row in over], default=0)
        over = [row for row in over if row[0] >= last_asked]
        pairs.extend([((row[2], row[3]), (client, number)) for row in over])
    return pairs
