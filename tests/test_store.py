"""Points [14] and [17]: the plain store."""

import unittest

from crosskeep.data.deals import do_deal
from crosskeep.data.store import Store
from samples import rows_and_deals


class StoreTests(unittest.TestCase):
    def test_example_of_the_interface(self):
        store = Store({"a": 5})
        checks = (("a", 5), ("b", None))
        self.assertEqual(store.do((checks, (("add", "a", -2), ("put", "b", "x")))), ("done", (3, None)))
        self.assertEqual(store.do((checks, (("del", "a"),))), ("unheld", (3, "x")))
        self.assertEqual(store.rows, {"a": 3, "b": "x"})

    def test_without_rows(self):
        for store in (Store(), Store(None), Store(rows=None), Store({}), Store(rows={})):
            self.assertEqual(store.rows, {})
            self.assertEqual(store.do(((("a", None),), (("put", "a", 1),))), ("done", (None,)))
            self.assertEqual(store.rows, {"a": 1})
        self.assertEqual(Store().rows, {})

    def test_the_dict_that_was_passed_is_copied(self):
        for rows in ({}, {"a": 5}):
            before = dict(rows)
            store = Store(rows)
            store.do(((), (("put", "b", 1),)))
            self.assertEqual(rows, before)
            rows["c"] = 7
            self.assertEqual(store.rows, {**before, "b": 1})

    def test_deals_one_by_one(self):
        store = Store()
        rows = {}
        for _, _, deal in rows_and_deals(3, 1000):
            self.assertEqual(store.do(deal), do_deal(rows, deal))
            self.assertEqual(store.rows, rows)

    def test_forks(self):
        for rows in ({}, {"a": 5}):
            store = Store(rows)
            twin = store.fork()
            self.assertIsInstance(twin, Store)
            self.assertEqual(twin.rows, rows)
            store.do(((), (("put", "a", 6),)))
            twin.do(((), (("put", "b", 7),)))
            self.assertEqual(store.rows, {**rows, "a": 6})
            self.assertEqual(twin.rows, {**rows, "b": 7})
