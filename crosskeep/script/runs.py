"""Running schedules, and shortening those that fail (points [102] and [103])."""

from crosskeep.errors import CrossError


def run(world, calls):
    """Run a schedule; return a list with a pair for each call: True and what it returned, or False and None."""
    return [_outcome(world, call) for call in calls]


def _outcome(world, call):
    try:
        return (True, world.perform(call))
    except CrossError:
        return (False, None)


def shorten(calls, fails):
    """Return the shortened schedule, which fails, but not without any of its calls; or a copy if it does not fail."""
    left = list(calls)
    if not fails(list(left)):
        return left
    place = 0
    while place < len(left):
        others = left[:place] + left[place + 1:]
        if fails(list(others)):
            left = others
            # A call that was needed so far may be none that is needed now.
            place = 0
        else:
            place += 1
    return left
