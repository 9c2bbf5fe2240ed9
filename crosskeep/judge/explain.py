"""Judging an order of deals: whether it explains what the clients were answered (point [93])."""

from crosskeep.data.store import Store

# The places in a record of a history, behind the client and the number.
DEAL = 2
ASKED = 3
ANSWERED = 4
ANSWER = 5


def fault_of(history, order):
    """Return the first fault of an order, a tuple, or None if the order explains the history."""
    records = _by_name(history)
    fault = _fault_of_names(records, order)
    if fault is None:
        fault = _fault_of_answers(records, order)
    if fault is None:
        fault = _missing(history, order)
    if fault is None:
        fault = _late(records, order)
    return fault


def store_behind(history, order):
    """Return the plain Store behind the deals of an order whose names are those of records."""
    records = _by_name(history)
    store = Store()
    for client, number, _ in order:
        store.do(records[(client, number)][DEAL])
    return store


def is_decided(answer):
    """Return True if a deal with this answer has to stand in an order, otherwise False."""
    return answer is not None and answer[0] in ("done", "unheld")


def _by_name(history):
    return {(record[0], record[1]): record for record in history}


def _fault_of_names(records, order):
    ahead = {}
    for place, (client, number, _) in enumerate(order):
        if (client, number) not in records:
            return ("unknown", place)
        if (client, number) in ahead:
            return ("twice", place)
        ahead[(client, number)] = True
    return None


def _fault_of_answers(records, order):
    store = Store()
    for place, (client, number, answer) in enumerate(order):
        record = records[(client, number)]
        if store.do(record[DEAL]) != answer:
            return ("wrong", place)
        if record[ANSWER] is not None and record[ANSWER] != answer:
            return ("other", place)
    return None


def _missing(history, order):
    names = {(client, number): True for client, number, _ in order}
    for place, record in enumerate(history):
        if is_decided(record[ANSWER]) and (record[0], record[1]) not in names:
            return ("missing", place)
    return None


def _late(records, order):
    last_asked = -1
    for place, (client, number, _) in enumerate(order):
        record = records[(client, number)]
        if record[ANSWERED] is not None and record[ANSWERED] < last_asked:
            return ("late", place)
        last_asked = max(last_asked, record[ASKED])
    return None
