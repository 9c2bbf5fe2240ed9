"""Point [93]: the first fault of an order, and the plain store behind it."""

import unittest
from random import Random

from crosskeep.data.store import Store
from crosskeep.judge.explain import fault_of, store_behind
from samples import some_deal
from worlds import KEYS

ADD = ((), (("add", "a", 1),))
CHECK = ((("a", 1),), (("put", "b", "x"),))
GET = ((), (("get", "a"),))


def done(*answers):
    return ("done", answers)


# Client 0 asks for ADD and then for CHECK, client 1 for GET and then for ADD, client 2 for GET.
HISTORY = [
    (0, 1, ADD, 0, 2, done(1)),
    (1, 1, GET, 1, 4, done(1)),
    (0, 2, CHECK, 3, 6, done(None)),
    (1, 2, ADD, 5, None, None),
    (2, 1, GET, 7, 8, ("busy",)),
]
ORDER = [(0, 1, done(1)), (1, 1, done(1)), (0, 2, done(None))]


class Faults(unittest.TestCase):
    def check(self, fault, order, history=HISTORY):
        before = (list(history), list(order))
        self.assertEqual(fault_of(history, order), fault)
        self.assertEqual((list(history), list(order)), before)

    def test_none(self):
        self.check(None, ORDER)
        self.check(None, [ORDER[0], ORDER[2], ORDER[1]])
        self.check(None, [], [])
        self.check(None, [], [(0, 1, ADD, 0, None, None), (1, 1, ADD, 1, 2, ("moved", ()))])

    def test_open_calls_may_stand_in_it(self):
        self.check(None, ORDER + [(1, 2, done(2))])
        self.check(None, [(1, 2, done(1))], [(1, 2, ADD, 0, None, None)])
        self.check(("wrong", 3), ORDER + [(1, 2, done(1))])
        # The record of a call that is open was not answered before anything.
        history = [(1, 1, ADD, 0, None, None), (0, 1, ADD, 1, 2, done(1))]
        self.check(None, [(0, 1, done(1)), (1, 1, done(2))], history)
        self.check(None, [(0, 1, done(1))], history)

    def test_unknown(self):
        self.check(("unknown", 0), [(3, 1, done(1))] + ORDER)
        self.check(("unknown", 1), ORDER[:1] + [(0, 3, done(1))] + ORDER[1:])
        self.check(("unknown", 3), ORDER + [(1, 3, done(1))])
        self.check(("unknown", 0), [(0, 0, done(1))], [])

    def test_twice(self):
        self.check(("twice", 1), ORDER[:1] + ORDER)
        self.check(("twice", 3), ORDER + ORDER)
        self.check(("twice", 3), ORDER + [(0, 1, done(2))])

    def test_unknown_and_twice_place_by_place(self):
        self.check(("twice", 1), ORDER[:1] * 2 + [(3, 3, done(1))])
        self.check(("unknown", 1), ORDER[:1] + [(3, 3, done(1))] + ORDER[:1])
        self.check(("unknown", 0), [(3, 3, done(1))] * 2)

    def test_wrong(self):
        self.check(("wrong", 0), [ORDER[1], ORDER[0], ORDER[2]])
        self.check(("wrong", 1), [ORDER[0], (1, 1, done(2)), ORDER[2]])
        self.check(("wrong", 2), ORDER[:2] + [(0, 2, ("unheld", (1,)))])
        self.check(("wrong", 0), [(0, 1, ("busy",))])
        self.check(("wrong", 0), [(0, 1, None)])
        self.check(("wrong", 0), [(0, 1, done(1))], [(0, 1, GET, 0, 1, done(1))])

    def test_wrong_is_what_a_plain_store_does_not_give(self):
        order = [(0, 2, ("unheld", (None,))), (0, 1, done(1))]
        history = [(0, 1, ADD, 0, 1, done(1)), (0, 2, CHECK, 0, 1, ("unheld", (None,)))]
        self.check(None, order, history)
        # What is unheld changes nothing.
        self.check(None, order + [(1, 1, done(1))], history + [(1, 1, GET, 0, None, None)])

    def test_other(self):
        history = [(0, 1, ADD, 0, 2, done(5))] + HISTORY[1:]
        self.check(("other", 0), ORDER, history)
        for answer in (("busy",), ("moved", ()), ("unheld", (1,)), done(), done(1, 1)):
            self.check(("other", 1), ORDER, HISTORY[:1] + [(1, 1, GET, 1, 4, answer)] + HISTORY[2:])

    def test_wrong_and_other_place_by_place(self):
        other = [(0, 1, ADD, 0, 2, ("busy",))] + HISTORY[1:]
        self.check(("other", 0), [ORDER[0], (1, 1, done(2))], other)
        self.check(("wrong", 0), [(0, 1, done(2))], other)
        self.check(("wrong", 1), [ORDER[0], (1, 1, done(2)), (0, 2, done(None))],
                   HISTORY[:2] + [(0, 2, CHECK, 3, 6, done(1))])

    def test_missing(self):
        self.check(("missing", 0), [])
        self.check(("missing", 1), ORDER[:1])
        self.check(("missing", 2), ORDER[:2])
        self.check(("missing", 1), [ORDER[0], ORDER[2]])
        self.check(("missing", 0), [], [(0, 1, CHECK, 0, 1, ("unheld", (None,)))])
        self.check(("missing", 4), ORDER, HISTORY[:4] + [(2, 1, GET, 7, 8, done(1))])

    def test_late(self):
        history = [(0, 1, GET, 0, 1, done(None)), (1, 1, GET, 2, 3, done(None)), (2, 1, GET, 4, 5, done(None))]
        order = [(client, 1, done(None)) for client in range(3)]
        self.check(None, order, history)
        self.check(("late", 1), [order[1], order[0], order[2]], history)
        self.check(("late", 2), [order[0], order[2], order[1]], history)
        self.check(("late", 1), [order[2], order[0], order[1]], history)
        # It is late behind any entry ahead of it, not only behind the next one.
        history = [(0, 1, GET, 0, 2, done(None)), (1, 1, GET, 3, 4, done(None)), (2, 1, GET, 1, 5, done(None))]
        self.check(("late", 2), [order[1], order[2], order[0]], history)
        self.check(None, [order[0], order[1], order[2]], history)
        self.check(None, [order[2], order[0], order[1]], history)

    def test_late_where_it_overlaps(self):
        history = [(0, 1, GET, 0, 2, done(None)), (1, 1, GET, 1, 3, done(None))]
        order = [(client, 1, done(None)) for client in range(2)]
        self.check(None, order, history)
        self.check(None, order[::-1], history)

    def test_the_order_of_the_table(self):
        late = [(0, 1, GET, 0, 1, done(None)), (1, 1, GET, 2, 3, done(None)), (2, 1, GET, 4, 5, done(None))]
        swapped = [(1, 1, done(None)), (0, 1, done(None))]
        self.check(("missing", 2), swapped, late)
        self.check(("wrong", 2), swapped + [(2, 1, done(1))], late)
        self.check(("twice", 3), swapped + [(2, 1, done(1)), (1, 1, done(None))], late)
        self.check(("wrong", 0), [(1, 1, done(1))], late)
        self.check(("unknown", 1), [(1, 1, done(1)), (3, 1, done(1))], late)
        self.check(("other", 0), [(1, 1, done(None))], [late[0], (1, 1, GET, 2, 3, done(1))])

    def test_against_a_plain_reading(self):
        random = Random(93)
        seen = {}
        for _ in range(3000):
            history, order = self.drawn(random)
            fault = self.plain_fault(history, order)
            self.check(fault, order, history)
            seen[fault and fault[0]] = seen.get(fault and fault[0], 0) + 1
        for word in (None, "unknown", "twice", "wrong", "other", "missing", "late"):
            self.assertGreater(seen.get(word, 0), 50, seen)

    def drawn(self, random):
        """A history and an order, which are often good but for one thing."""
        count = random.randint(1, 5)
        events = list(range(2 * count))
        store, history, order = Store(), [], []
        for place in range(count):
            name = (place % 2, place // 2 + 1)
            deal = random.choice((ADD, CHECK, GET, some_deal(random, KEYS[:2], store.rows)))
            answer = store.do(deal)
            times = events[2 * place:2 * place + 2]
            if random.random() < 0.25:
                times = sorted(random.sample(events, 2))
            history.append(name + (deal,) + tuple(times) + (answer,))
            order.append(name + (answer,))
            if random.random() < 0.2:
                history[-1] = history[-1][:4] + random.choice(((None, None), (times[1], ("busy",))))
        change = random.randrange(6)
        if change == 0:
            random.shuffle(order)
        elif change == 1:
            order.pop(random.randrange(count))
        elif change == 2:
            order.insert(random.randrange(count + 1), random.choice(order))
        elif change == 3:
            order.insert(random.randrange(count + 1), (3, 1, done(1)))
        return history, order

    def plain_fault(self, history, order):
        records = {row[:2]: row for row in history}
        names = [entry[:2] for entry in order]
        for place, name in enumerate(names):
            if name not in records:
                return ("unknown", place)
            if name in names[:place]:
                return ("twice", place)
        for place, name in enumerate(names):
            store = Store()
            for ahead in names[:place]:
                store.do(records[ahead][2])
            if store.do(records[name][2]) != order[place][2]:
                return ("wrong", place)
            if records[name][5] not in (None, order[place][2]):
                return ("other", place)
        for place, row in enumerate(history):
            if row[5] is not None and row[5][0] in ("done", "unheld") and row[:2] not in names:
                return ("missing", place)
        for place, name in enumerate(names):
            answered = records[name][4]
            if answered is not None and any(answered < records[ahead][3] for ahead in names[:place]):
                return ("late", place)
        return None


class Behind(unittest.TestCase):
    def test_the_store_behind_an_order(self):
        for count, rows in enumerate(({}, {"a": 1}, {"a": 1}, {"a": 1, "b": "x"})):
            store = store_behind(HISTORY, ORDER[:count])
            self.assertIsInstance(store, Store)
            self.assertEqual(store.rows, rows)

    def test_what_the_order_tells_does_not_matter(self):
        self.assertEqual(store_behind(HISTORY, [(1, 2, None), (0, 2, ("busy",)), (0, 1, done(9))]).rows,
                         {"a": 2, "b": "x"})

    def test_stores_are_apart(self):
        first = store_behind(HISTORY, ORDER)
        first.do(ADD)
        self.assertEqual(store_behind(HISTORY, ORDER).rows, {"a": 1, "b": "x"})


if __name__ == "__main__":
    unittest.main()
