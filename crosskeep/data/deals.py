"""Deals: checks and deeds, done whole or not at all (points [16] and [17])."""

from crosskeep.data.deeds import apply_deed, is_deed, key_of_deed
from crosskeep.data.keys import is_key, is_value

MOST_CHECKS = 4
MOST_DEEDS = 6


def is_check(data):
    """Return True if packable data is a check, otherwise False."""
    if not isinstance(data, tuple) or len(data) != 2:
        return False
    key, value = data
    return is_key(key) and (value is None or is_value(value))


def is_deal(data):
    """Return True if packable data is a deal, otherwise False."""
    if not isinstance(data, tuple) or len(data) != 2:
        return False
    checks, deeds = data
    if not isinstance(checks, tuple) or not isinstance(deeds, tuple):
        return False
    if len(checks) > MOST_CHECKS or len(deeds) > MOST_DEEDS or len(checks) + len(deeds) == 0:
        return False
    return all([is_check(check) for check in checks]) and all([is_deed(deed) for deed in deeds])


def keys_of(deal):
    """Return a tuple of the keys of a deal, in ascending order, each once."""
    checks, deeds = deal
    return tuple(sorted(set([key for key, value in checks] + [key_of_deed(deed) for deed in deeds])))


def do_deal(rows, deal):
    """Do a deal on rows, which it may change, and return its answer."""
    checks, deeds = deal
    values = tuple([rows.get(key) for key, value in checks])
    if values != tuple([value for key, value in checks]):
        return ("unheld", values)
    return ("done", tuple([apply_deed(rows, deed) for deed in deeds]))
