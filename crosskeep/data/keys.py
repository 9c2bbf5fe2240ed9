"""Keys, values, ranges and rows (points [13] and [14])."""

from crosskeep.data.integers import is_integer
from crosskeep.data.texts import is_text

KEY_SIGNS = 8
VALUE_SIGNS = 20
MOST_VALUE = 10 ** 15
KEY_ALPHABET = "abcdefghijklmnopqrstuvwxyz0123456789"


def is_integer_within(data, most):
    """Return True if data is an integer from -most to most, otherwise False."""
    return is_integer(data) and -most <= data <= most


def is_key(data):
    """Return True if packable data is a key, otherwise False."""
    if not isinstance(data, str) or not 1 <= len(data) <= KEY_SIGNS:
        return False
    return all([sign in KEY_ALPHABET for sign in data])


def is_value(data):
    """Return True if packable data is a value, otherwise False."""
    if isinstance(data, str):
        return len(data) <= VALUE_SIGNS and is_text(data)
    return is_integer_within(data, MOST_VALUE)


def is_range(start, end):
    """Return True if packable data are the start and the end of a range, otherwise False."""
    return (start == "" or is_key(start)) and (end is None or is_key(end))


def key_in(key, start, end):
    """Return True if the range has the key, otherwise False."""
    return start <= key and (end is None or key < end)


def is_within(start, end, low, high):
    """Return True if the range from start to end lies within the one from low to high, otherwise False."""
    return low <= start and (high is None or (end is not None and end <= high))


def with_ends(ranges):
    """Return a list of the tuples (start, end, cell) of the ranges of a plan: each ends where the next one begins."""
    ends = [start for start, cell in ranges[1:]] + [None]
    return [(start, end, cell) for (start, cell), end in zip(ranges, ends)]


def rows_in(rows, start, end):
    """Return a tuple of the pairs (key, value) of the rows that the range has, in the order of keys."""
    return tuple([(key, rows[key]) for key in sorted(rows) if key_in(key, start, end)])
