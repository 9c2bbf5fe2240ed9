"""Parts of deals: tried apart from one another, and joined to one answer (points [18] to [21])."""

from crosskeep.data.deeds import apply_deed, key_of_deed


def part_of(deal, keys):
    """Return the part of a deal for a list or tuple of keys."""
    checks, deeds = deal
    return (
        tuple([(place, key, value) for place, (key, value) in enumerate(checks) if key in keys]),
        tuple([(place, deed) for place, deed in enumerate(deeds) if key_of_deed(deed) in keys]),
    )


def keys_of_part(part):
    """Return a tuple of the keys of a part, in ascending order, each once."""
    checks, deeds = part
    return tuple(sorted(set([key for place, key, value in checks] + [key_of_deed(deed) for place, deed in deeds])))


def try_part(rows, part):
    """Return the tuple (held, values, answers, writes) that trying a part on rows tells."""
    checks, deeds = part
    values = tuple([(place, rows.get(key)) for place, key, value in checks])
    if not all([rows.get(key) == value for place, key, value in checks]):
        return (0, values, (), ())
    keys = keys_of_part(part)
    # Deeds see and change no other keys, so a copy of these rows does for all of them.
    behind = {key: rows[key] for key in keys if key in rows}
    answers = tuple([(place, apply_deed(behind, deed)) for place, deed in deeds])
    writes = tuple([(key, behind.get(key)) for key in keys if behind.get(key) != rows.get(key)])
    return (1, values, answers, writes)


def write_rows(rows, writes):
    """Make writes on rows, which it may change."""
    for key, value in writes:
        if value is None:
            rows.pop(key, None)
        else:
            rows[key] = value


def join_parts(tried):
    """Return the answer of a deal from what trying all its parts told, in any order."""
    if all([held == 1 for held, values, answers, writes in tried]):
        return ("done", _by_place([pair for held, values, answers, writes in tried for pair in answers]))
    return ("unheld", _by_place([pair for held, values, answers, writes in tried for pair in values]))


def _by_place(pairs):
    return tuple([told for place, told in sorted(pairs, key=lambda pair: pair[0])])
