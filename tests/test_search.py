"""Point [94]: the search for an order that explains a history."""

import unittest
from itertools import permutations
from random import Random

from crosskeep.data.store import Store
from crosskeep.judge.explain import fault_of
from crosskeep.judge.search import MOST_CALLS, find_order
from samples import some_deal

ADD = ((), (("add", "a", 1),))
GET = ((), (("get", "a"),))
DROP = ((("a", 2),), (("del", "a"),))
DECIDED = ("done", "unheld")


def done(*answers):
    return ("done", answers)


def may_stand(record):
    return record[5] is None or record[5][0] in DECIDED


def plain_search(history):
    """The first row of records, by their places in the history, that point [94] takes; by trying all of them."""
    places = [place for place, record in enumerate(history) if may_stand(record)]
    answered = [place for place in places if history[place][5] is not None]
    rows = [row for count in range(len(places) + 1) for row in permutations(places, count)
            if set(answered) <= set(row) and (not row or row[-1] in answered)]
    for row in sorted(rows):
        order = order_of(history, places, row)
        if order is not None:
            return order
    return None


def order_of(history, places, row):
    store, order = Store(), []
    for count, place in enumerate(row):
        record = history[place]
        left = [other for other in places if other not in row[:count] and other != place]
        if any(history[other][4] is not None and history[other][4] < record[3] for other in left):
            return None
        answer = store.do(record[2])
        if record[5] not in (None, answer):
            return None
        order.append((record[0], record[1], answer))
    return order


def some_history(random, count):
    """Calls that overlap, with answers of a store that did them in some order, of which one may be wrong."""
    starts = sorted(random.sample(range(40), count))
    ends = [start + random.choice((3, 8, 20)) for start in starts]
    deals = [random.choice((ADD, GET, DROP, some_deal(random, ("a", "b"), {"a": 1}))) for _ in range(count)]
    store, answers = Store(), {}
    for place in sorted(range(count), key=lambda place: random.uniform(starts[place], ends[place])):
        answers[place] = store.do(deals[place])
    history = []
    for place in range(count):
        told = random.random()
        answer = answers[place] if told < 0.7 else None if told < 0.9 else random.choice((("busy",), ("moved", ())))
        answered = None if answer is None else 2 * ends[place] + 1
        history.append((place % 4, place // 4 + 1, deals[place], 2 * starts[place], answered, answer))
    if random.random() < 0.3:
        place = random.randrange(count)
        if history[place][5] is not None:
            history[place] = history[place][:5] + (random.choice((done(1), done(2), ("unheld", (1,)))),)
    return history


class Search(unittest.TestCase):
    def check(self, history, order):
        before = list(history)
        self.assertEqual(find_order(history), order)
        self.assertEqual(history, before)
        if order is not None:
            self.assertIsNone(fault_of(history, order))

    def test_the_most(self):
        self.assertEqual(MOST_CALLS, 8)

    def test_the_example_of_the_interface(self):
        history = [(0, 1, ADD, 0, 3, done(2)), (1, 1, ADD, 1, None, None)]
        self.check(history, [(1, 1, done(1)), (0, 1, done(2))])
        self.assertEqual(fault_of(history, [(0, 1, done(2))]), ("wrong", 0))

    def test_nothing_to_explain(self):
        self.check([], [])
        self.check([(0, 1, ADD, 0, None, None)], [])
        self.check([(0, 1, ADD, 0, 1, ("busy",)), (1, 1, GET, 2, 3, ("moved", ()))], [])

    def test_the_first_record_that_may_come_next(self):
        self.check([(0, 1, GET, 0, 2, done(None)), (1, 1, GET, 1, 3, done(None))], [(0, 1, done(None)),
                                                                                   (1, 1, done(None))])
        self.check([(0, 1, ADD, 0, 2, done(2)), (1, 1, ADD, 1, 3, done(1))], [(1, 1, done(1)), (0, 1, done(2))])
        # The first one could come first, but then the last one could not be explained.
        self.check([(0, 1, DROP, 0, 3, ("unheld", (None,))), (1, 1, ADD, 1, 4, done(1)), (2, 1, GET, 2, 5, done(1))],
                   [(0, 1, ("unheld", (None,))), (1, 1, done(1)), (2, 1, done(1))])
        self.check([(0, 1, DROP, 0, 3, ("unheld", (1,))), (1, 1, ADD, 1, 4, done(1)), (2, 1, GET, 2, 5, done(None))],
                   [(2, 1, done(None)), (1, 1, done(1)), (0, 1, ("unheld", (1,)))])

    def test_calls_that_were_answered_before_another_was_asked(self):
        self.check([(0, 1, ADD, 0, 1, done(1)), (1, 1, ADD, 2, 3, done(2))], [(0, 1, done(1)), (1, 1, done(2))])
        self.check([(0, 1, ADD, 0, 1, done(2)), (1, 1, ADD, 2, 3, done(1))], None)
        self.check([(0, 1, ADD, 0, 2, done(2)), (1, 1, ADD, 1, 3, done(1))], [(1, 1, done(1)), (0, 1, done(2))])

    def test_open_calls_that_have_to_stand_in_it(self):
        self.check([(0, 1, ADD, 0, None, None), (1, 1, GET, 1, 2, done(1))], [(0, 1, done(1)), (1, 1, done(1))])
        self.check([(0, 1, ADD, 0, 1, done(1)), (1, 1, ADD, 2, None, None), (0, 2, GET, 3, 4, done(2))],
                   [(0, 1, done(1)), (1, 1, done(2)), (0, 2, done(2))])
        self.check([(0, 1, GET, 0, 1, done(1)), (1, 1, ADD, 2, None, None)], None)

    def test_open_calls_are_taken_where_they_may_come_next(self):
        # It does not have to stand there, but it is the first record, and the rest can be explained.
        self.check([(0, 1, GET, 0, None, None), (1, 1, ADD, 1, 2, done(1))], [(0, 1, done(None)), (1, 1, done(1))])
        self.check([(1, 1, ADD, 0, 2, done(1)), (0, 1, GET, 1, None, None)], [(1, 1, done(1))])
        self.check([(0, 1, ADD, 0, None, None), (1, 1, ADD, 1, 2, done(1))], [(1, 1, done(1))])

    def test_refused_calls_do_not_stand_in_it(self):
        self.check([(0, 1, ADD, 0, 1, ("busy",)), (1, 1, GET, 2, 3, done(1))], None)
        self.check([(0, 1, ADD, 0, 1, ("moved", ())), (1, 1, GET, 2, 3, done(None))], [(1, 1, done(None))])
        # Neither do they hold others up.
        self.check([(0, 1, ADD, 0, 1, ("busy",)), (1, 1, ADD, 2, 3, done(1))], [(1, 1, done(1))])

    def test_answers_that_no_order_gives(self):
        self.check([(0, 1, GET, 0, 1, done(5))], None)
        self.check([(0, 1, ADD, 0, 2, done(1)), (1, 1, ADD, 1, 3, done(1))], None)
        self.check([(0, 1, DROP, 0, 1, done(2))], None)
        self.check([(0, 1, DROP, 0, 1, ("unheld", (2,)))], None)

    def test_eight_records(self):
        counts = [5, 3, 8, 1, 7, 2, 6, 4]
        history = [(place % 4, place // 4 + 1, ADD, place, 20 + place, done(count))
                   for place, count in enumerate(counts)]
        self.check(history, [history[counts.index(count)][:2] + (done(count),) for count in range(1, 9)])
        self.check(history[:7] + [(3, 2, ADD, 7, 27, done(9))], None)
        free = [(place % 4, place // 4 + 1, GET, place, 20 + place, done(None)) for place in range(8)]
        self.check(free, [record[:2] + (done(None),) for record in free])
        self.check(free[:7] + [(3, 2, GET, 7, 27, done(1))], None)
        different = [(place % 4, place // 4 + 1, ((), (("put", "abcdefgh"[place], 1),)), place, 20 + place, done(None))
                     for place in range(7)]
        self.check(different + [(3, 2, GET, 7, 27, done(2))], None)

    def test_against_a_plain_search(self):
        random = Random(94)
        found = 0
        for _ in range(700):
            history = some_history(random, random.randint(1, 5))
            order = plain_search(history)
            self.check(history, order)
            found += order is not None
            if order is None:
                self.assertTrue(self.nothing_explains(history))
        self.assertTrue(150 < found < 650, found)

    def nothing_explains(self, history):
        places = [place for place, record in enumerate(history) if may_stand(record)]
        for count in range(len(places) + 1):
            for row in permutations(places, count):
                store = Store()
                order = [history[place][:2] + (store.do(history[place][2]),) for place in row]
                if fault_of(history, order) is None:
                    return False
        return True

    def test_lists_that_are_returned_are_new(self):
        history = [(0, 1, ADD, 0, 1, done(1))]
        find_order(history).clear()
        find_order([]).append("x")
        self.check(history, [(0, 1, done(1))])
        self.check([], [])


if __name__ == "__main__":
    unittest.main()
