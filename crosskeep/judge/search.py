"""Looking for an order of deals that explains what the clients were answered (point [94])."""

from crosskeep.data.store import Store
from crosskeep.judge.explain import ANSWER, ANSWERED, ASKED, DEAL, is_decided

MOST_CALLS = 8


def find_order(history):
    """Return an order that explains a history, or None."""
    left = [record for record in history if record[ANSWER] is None or is_decided(record[ANSWER])]
    return _order_of(left, Store(), {})


def _order_of(left, store, hopeless):
    """Return the rest of an order that explains the records that are left, or None.

    The store is the one behind the order so far. What is left at a store from which there is no way is noted.
    """
    if all([record[ANSWER] is None for record in left]):
        return []
    state = (tuple([(record[0], record[1]) for record in left]), tuple(sorted(store.rows.items())))
    if state in hopeless:
        return None
    for place, record in enumerate(left):
        order = _order_from(record, left[:place] + left[place + 1:], store, hopeless)
        if order is not None:
            return order
    hopeless[state] = True
    return None


def _order_from(record, others, store, hopeless):
    """Return the rest of an order in which this record comes next, or None if there is none."""
    if any([other[ANSWERED] is not None and other[ANSWERED] < record[ASKED] for other in others]):
        return None
    behind = store.fork()
    answer = behind.do(record[DEAL])
    if record[ANSWER] is not None and record[ANSWER] != answer:
        return None
    rest = _order_of(others, behind, hopeless)
    return None if rest is None else [(record[0], record[1], answer)] + rest
