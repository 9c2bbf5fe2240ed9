"""Packs: packable data as octets, and back (points [22] to [24])."""

from crosskeep.data.texts import sign_of
from crosskeep.errors import Malformed

MOST_DEPTH = 40
MOST_INTEGER = 10 ** 18

# The first octet of a pack tells which kind of data it is.
NOTHING = 0
FROM_ZERO = 1
BELOW_ZERO = 2
TEXT = 3
TUPLE = 4


def pack(data):
    """Return the pack of packable data as a list of octets."""
    octets = []
    _add_data(octets, data)
    return octets


def _add_data(octets, data):
    if data is None:
        octets.append(NOTHING)
    elif isinstance(data, int):
        _add_integer(octets, data)
    elif isinstance(data, str):
        octets.append(TEXT)
        _add_sevens(octets, len(data))
        octets.extend([ord(sign) for sign in data])
    else:
        octets.append(TUPLE)
        _add_sevens(octets, len(data))
        for item in data:
            _add_data(octets, item)


def _add_integer(octets, number):
    if number >= 0:
        octets.append(FROM_ZERO)
        _add_sevens(octets, number)
    else:
        octets.append(BELOW_ZERO)
        _add_sevens(octets, -number - 1)


def _add_sevens(octets, number):
    while number >= 128:
        octets.append(number % 128 + 128)
        number = number // 128
    octets.append(number)


def unpack(octets):
    """Return the data whose pack a list of octets is. Raise Malformed if it is none."""
    data = _read_whole(octets, MOST_DEPTH)
    if _has_great_integer(data):
        raise Malformed("an integer is too great")
    return data


def unpack_own(octets):
    """Return the data of a pack that the program made, however deep it is and however great its integers are."""
    # Each tuple takes two octets, so no data of these octets can be deeper than this.
    return _read_whole(octets, len(octets))


def _read_whole(octets, room):
    """Return the data whose pack these octets are, with at most so many tuples one in another."""
    data, end = _read_data(octets, 0, room)
    if end < len(octets):
        raise Malformed("octets stand behind the pack")
    return data


def _has_great_integer(data):
    if isinstance(data, tuple):
        return any([_has_great_integer(item) for item in data])
    return isinstance(data, int) and not -MOST_INTEGER <= data <= MOST_INTEGER


def _read_data(octets, at, room):
    """Return the data whose pack begins at a place, with room for so many tuples, and the place behind it."""
    kind = _octet_at(octets, at)
    if kind == NOTHING:
        return None, at + 1
    if kind == FROM_ZERO or kind == BELOW_ZERO:
        return _read_integer(octets, at)
    if kind == TEXT:
        return _read_text(octets, at + 1)
    if kind == TUPLE:
        return _read_tuple(octets, at + 1, room)
    raise Malformed("no data begins with this octet")


def _read_integer(octets, at):
    number, end = _read_sevens(octets, at + 1)
    return (-number - 1 if octets[at] == BELOW_ZERO else number), end


def _read_text(octets, at):
    length, start = _read_sevens(octets, at)
    end = start + length
    if end > len(octets):
        raise Malformed("the text is cut off")
    signs = [sign_of(code) for code in octets[start:end]]
    if None in signs:
        raise Malformed("no text has this character")
    return "".join(signs), end


def _read_tuple(octets, at, room):
    if room == 0:
        raise Malformed("too many tuples lie one in another")
    length, end = _read_sevens(octets, at)
    items = []
    for _ in range(length):
        item, end = _read_data(octets, end, room - 1)
        items.append(item)
    return tuple(items), end


def _read_sevens(octets, at):
    number = 0
    scale = 1
    end = at
    while _octet_at(octets, end) >= 128:
        number += (octets[end] - 128) * scale
        scale *= 128
        end += 1
    if octets[end] == 0 and end > at:
        raise Malformed("the last digit of several is 0")
    return number + octets[end] * scale, end + 1


def _octet_at(octets, at):
    if at >= len(octets):
        raise Malformed("the pack is cut off")
    return octets[at]
