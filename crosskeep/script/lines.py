"""Scripts: schedules as plain texts, with a line for each call (points [99] to [101])."""

from crosskeep.data.texts import is_text
from crosskeep.errors import Malformed
from crosskeep.packing.packs import MOST_DEPTH, MOST_INTEGER

WORD_SIGNS = 12
WORD_ALPHABET = "abcdefghijklmnopqrstuvwxyz"
DIGITS = "0123456789"
MOST_DIGITS = 19


def write_call(call):
    """Return the line of a call, without a line end."""
    word, *arguments = call
    return " ".join([word] + [_write_data(data) for data in arguments])


def write_script(calls):
    """Return the script of a schedule."""
    return "".join([write_call(call) + "\n" for call in calls])


def _write_data(data):
    if data is None:
        return "-"
    if isinstance(data, int):
        return str(data)
    if isinstance(data, str):
        return '"' + data.replace('"', '""') + '"'
    return "(" + " ".join([_write_data(item) for item in data]) + ")"


def read_script(text):
    """Return the schedule of a script, a list. Raise Malformed with the number of the first line that is none."""
    lines = text.split("\n")
    # Behind the last line end stands nothing, or a line that was not ended.
    if lines[-1] == "":
        lines.pop()
    return [_read_line(line, number) for number, line in enumerate(lines, 1)]


def _read_line(line, number):
    try:
        return read_call(line)
    except Malformed as error:
        raise Malformed(str(error), number) from None


def read_call(line):
    """Return the call with this line. Raise Malformed if there is none."""
    end = _end_of_signs(line, 0, WORD_ALPHABET)
    if not 1 <= end <= WORD_SIGNS:
        raise Malformed("a call begins with a word of 1 to 12 letters")
    call = [line[:end]]
    while end < len(line):
        _check_sign(line, end, " ")
        data, end = _read_data(line, end + 1, MOST_DEPTH)
        call.append(data)
    return tuple(call)


def _read_data(line, at, room):
    """Return the data that is written from a place on, with room for so many tuples, and the place behind it."""
    sign = line[at:at + 1]
    if sign == '"':
        return _read_text(line, at + 1)
    if sign == "(":
        return _read_tuple(line, at + 1, room)
    end = _end_of_signs(line, at + 1, DIGITS)
    if sign == "-" and end == at + 1:
        return None, end
    return _integer_of(line[at:end]), end


def _integer_of(written):
    """Return the integer that is written so; a dash ahead of it may be all that is no digit."""
    digits = written[1:] if written.startswith("-") else written
    if digits == "" or digits[0] not in DIGITS:
        raise Malformed("no data begins with this sign")
    if len(digits) > MOST_DIGITS or (digits[0] == "0" and written != "0"):
        raise Malformed("the integer is too great, or has a sign that it does not need")
    number = int(written)
    if not -MOST_INTEGER <= number <= MOST_INTEGER:
        raise Malformed("the integer is too great")
    return number


def _read_text(line, at):
    """Return the text that begins behind its first sign, and the place behind its last one."""
    end = _quote_from(line, at)
    text = line[at:end]
    while line[end + 1:end + 2] == '"':
        # Of two signs side by side the second one belongs to the text.
        start = end + 1
        end = _quote_from(line, start + 1)
        text += line[start:end]
    if not is_text(text):
        raise Malformed("no text has this character")
    return text, end + 1


def _quote_from(line, at):
    place = line.find('"', at)
    if place < 0:
        raise Malformed("the text is not closed")
    return place


def _read_tuple(line, at, room):
    """Return the tuple that begins behind its first sign, and the place behind its last one."""
    if room == 0:
        raise Malformed("too many tuples lie one in another")
    items = []
    end = at
    while line[end:end + 1] != ")":
        if items:
            _check_sign(line, end, " ")
            end += 1
        item, end = _read_data(line, end, room - 1)
        items.append(item)
    return tuple(items), end + 1


def _check_sign(line, at, sign):
    if line[at:at + 1] != sign:
        raise Malformed("a blank has to stand between two things")


def _end_of_signs(line, at, signs):
    """Return the place of the first character from a place on that is none of these signs."""
    end = at
    while end < len(line) and line[end] in signs:
        end += 1
    return end
