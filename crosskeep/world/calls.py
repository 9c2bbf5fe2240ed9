"""Calls of a world that are told by tuples: whether they have the words and arguments that they need (point [89])."""

from crosskeep.data.integers import is_number
from crosskeep.errors import OutOfRange

# What "data" may be is looked for by the call itself.
ARGUMENTS = {
    "deliver": ("number",),
    "drop": ("number",),
    "double": ("number",),
    "cut": ("number", "number"),
    "heal": ("number", "number"),
    "tick": ("number",),
    "sync": ("number",),
    "crash": ("number", "number"),
    "restart": ("number",),
    "wipe": ("number",),
    "members": ("number", "numbers"),
    "give": ("number", "data", "data", "number"),
    "call": ("number", "data", "number"),
    "again": ("number", "number"),
    "calm": ("number",),
}


def check_call(call):
    """Raise OutOfRange unless the tuple has the word of a call and as many arguments of such kinds as it needs."""
    if not isinstance(call, tuple) or len(call) == 0:
        raise OutOfRange("a call is a tuple with a word")
    word, *told = call
    if not isinstance(word, str) or word not in ARGUMENTS:
        raise OutOfRange("no call has this word")
    kinds = list(ARGUMENTS[word])
    if len(told) != len(kinds):
        raise OutOfRange("the call has another number of arguments")
    if not all([_is_of_kind(data, kind) for data, kind in zip(told, kinds)]):
        raise OutOfRange("the call has arguments of other kinds")


def _is_of_kind(data, kind):
    if kind == "number":
        return is_number(data)
    if kind == "numbers":
        return isinstance(data, tuple) and all([is_number(item) for item in data])
    return True
