"""Integers and numbers (point [3])."""


def is_integer(data):
    """Return True if data is an integer, otherwise False."""
    # Python counts truth values among the integers; the document does not.
    return isinstance(data, int) and not isinstance(data, bool)


def is_number(data):
    """Return True if data is an integer that is not negative, otherwise False."""
    return is_integer(data) and data >= 0
