"""Data that is none of the things that the tests ask about, and seeded deals for comparisons."""

from random import Random

# Packable data of every kind, of which none is a key, a value, a deed or a deal.
NEVER = [True, False, (), ((),), (None,), (1,), ("a",), ("a", 1, 2, 3), ((), (), ()), "a%", "\u00e9", "a\x7f", "a\n"]


def some_value(random):
    return random.choice([0, 1, -1, 5, 10 ** 15, -10 ** 15, "", "x", "5"])


def some_rows(random, keys):
    return {key: some_value(random) for key in keys if random.random() < 0.6}


def some_deed(random, keys):
    key = random.choice(keys)
    return random.choice([
        ("get", key),
        ("put", key, some_value(random)),
        ("del", key),
        ("add", key, random.choice([0, 1, -1, 10 ** 9])),
    ])


def some_check(random, keys, rows):
    key = random.choice(keys)
    if random.random() < 0.8:
        return (key, rows.get(key))
    return (key, random.choice([None, some_value(random)]))


def some_deal(random, keys, rows):
    checks = tuple(some_check(random, keys, rows) for _ in range(random.randrange(5)))
    deeds = tuple(some_deed(random, keys) for _ in range(random.randrange(7)))
    return (checks, deeds) if checks or deeds else (checks, (some_deed(random, keys),))


def rows_and_deals(seed, count, keys=("a", "b", "c", "d")):
    random = Random(seed)
    for _ in range(count):
        rows = some_rows(random, keys)
        yield random, rows, some_deal(random, keys, rows)
