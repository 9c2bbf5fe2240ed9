"""Deeds: what is done at one key (point [15])."""

from crosskeep.data.keys import is_integer_within, is_key, is_value

MOST_NUMBER = 10 ** 9


def is_deed(data):
    """Return True if packable data is a deed, otherwise False."""
    if not isinstance(data, tuple) or len(data) < 2 or not is_key(data[1]):
        return False
    word = data[0]
    if word in ("get", "del"):
        return len(data) == 2
    if len(data) != 3:
        return False
    if word == "put":
        return is_value(data[2])
    return word == "add" and is_integer_within(data[2], MOST_NUMBER)


def key_of_deed(deed):
    """Return the key at which a deed is done."""
    return deed[1]


def apply_deed(rows, deed):
    """Do a deed on rows, which it may change, and return its answer."""
    word = deed[0]
    key = key_of_deed(deed)
    if word == "add":
        return _add(rows, key, deed[2])
    before = rows.get(key)
    if word == "put":
        rows[key] = deed[2]
    elif word == "del":
        rows.pop(key, None)
    return before


def _add(rows, key, number):
    before = rows.get(key, 0)
    if isinstance(before, str) or not is_value(before + number):
        return None
    rows[key] = before + number
    return rows[key]
