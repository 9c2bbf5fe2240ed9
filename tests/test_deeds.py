"""Point [15]: deeds, and what each of them does."""

import unittest

from crosskeep.data.deeds import MOST_NUMBER, apply_deed, is_deed
from samples import NEVER


class IsDeed(unittest.TestCase):
    def test_all_four(self):
        for data in (("get", "a"), ("del", "zzzzzzzz"), ("put", "a", 5), ("put", "a", ""), ("add", "a", -7)):
            self.assertIs(is_deed(data), True, data)

    def test_number_of_an_add(self):
        self.assertEqual(MOST_NUMBER, 10 ** 9)
        for number in (0, 10 ** 9, -10 ** 9):
            self.assertIs(is_deed(("add", "a", number)), True, number)
        for number in (10 ** 9 + 1, -10 ** 9 - 1, True, False, None, "1", (), (1,)):
            self.assertIs(is_deed(("add", "a", number)), False, number)

    def test_value_of_a_put(self):
        for value in (10 ** 15, -10 ** 15, "x" * 20):
            self.assertIs(is_deed(("put", "a", value)), True, value)
        for value in (10 ** 15 + 1, -10 ** 15 - 1, "x" * 21, "a%", True, False, None, (), ("a",)):
            self.assertIs(is_deed(("put", "a", value)), False, value)

    def test_key(self):
        for key in ["", "A", "a" * 9, None, 1, *NEVER]:
            for data in (("get", key), ("del", key), ("put", key, 1), ("add", key, 1)):
                self.assertIs(is_deed(data), False, data)

    def test_lengths(self):
        for data in (("get",), ("del",), ("put",), ("add",), ("put", "a"), ("add", "a"), ("get", "a", 1)):
            self.assertIs(is_deed(data), False, data)
        for data in (("del", "a", 1), ("put", "a", 1, 1), ("add", "a", 1, 1), ("get", "a", None)):
            self.assertIs(is_deed(data), False, data)

    def test_other_words(self):
        for word in ("", "Get", "set", "gets", "ge", None, 0, True, (), ("get",)):
            self.assertIs(is_deed((word, "a")), False, word)
            self.assertIs(is_deed((word, "a", 1)), False, word)

    def test_other_data(self):
        for data in [*NEVER, None, 0, "get", "get a", (("get", "a"),)]:
            self.assertIs(is_deed(data), False, data)


class ApplyDeed(unittest.TestCase):
    def check(self, rows, deed, answer, behind):
        rows = dict(rows)
        self.assertEqual(apply_deed(rows, deed), answer)
        self.assertEqual(rows, behind)

    def test_get(self):
        self.check({"a": 5, "b": 1}, ("get", "a"), 5, {"a": 5, "b": 1})
        self.check({"a": ""}, ("get", "a"), "", {"a": ""})
        self.check({"b": 1}, ("get", "a"), None, {"b": 1})

    def test_put(self):
        self.check({"b": 1}, ("put", "a", "x"), None, {"a": "x", "b": 1})
        self.check({"a": 5, "b": 1}, ("put", "a", "x"), 5, {"a": "x", "b": 1})
        self.check({"a": "x"}, ("put", "a", 0), "x", {"a": 0})
        self.check({"a": 5}, ("put", "a", 5), 5, {"a": 5})

    def test_del(self):
        self.check({"a": 0, "b": 1}, ("del", "a"), 0, {"b": 1})
        self.check({"b": 1}, ("del", "a"), None, {"b": 1})

    def test_add(self):
        self.check({"b": 1}, ("add", "a", -7), -7, {"a": -7, "b": 1})
        self.check({"b": 1}, ("add", "a", 0), 0, {"a": 0, "b": 1})
        self.check({"a": 5, "b": 1}, ("add", "a", 2), 7, {"a": 7, "b": 1})
        self.check({"a": 5}, ("add", "a", 0), 5, {"a": 5})
        self.check({"a": 0}, ("add", "a", -10 ** 9), -10 ** 9, {"a": -10 ** 9})

    def test_add_to_a_text(self):
        for text in ("", "5", "x"):
            self.check({"a": text}, ("add", "a", 1), None, {"a": text})

    def test_a_sum_at_the_bounds_and_beyond(self):
        most = 10 ** 15
        self.check({"a": most - 1}, ("add", "a", 1), most, {"a": most})
        self.check({"a": most}, ("add", "a", 1), None, {"a": most})
        self.check({"a": 1 - most}, ("add", "a", -1), -most, {"a": -most})
        self.check({"a": -most}, ("add", "a", -1), None, {"a": -most})
        self.check({"a": most}, ("add", "a", -1), most - 1, {"a": most - 1})
