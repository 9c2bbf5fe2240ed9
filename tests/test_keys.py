"""Points [3], [13] and [14]: texts, keys, values, ranges and rows."""

import unittest

from crosskeep.data.keys import (
    KEY_SIGNS, MOST_VALUE, VALUE_SIGNS, is_key, is_range, is_value, is_within, key_in, rows_in, with_ends,
)
from crosskeep.data.texts import is_text
from samples import NEVER

TEXT_SIGNS = [chr(code) for code in range(32, 127) if code != 37]


class Texts(unittest.TestCase):
    def test_just_the_signs_from_space_to_tilde_without_percent(self):
        for code in range(0, 400):
            self.assertIs(is_text(chr(code)), chr(code) in TEXT_SIGNS, code)
            self.assertIs(is_text("a" + chr(code) + "b"), chr(code) in TEXT_SIGNS, code)

    def test_empty_and_long_texts(self):
        self.assertIs(is_text(""), True)
        self.assertIs(is_text("".join(TEXT_SIGNS) * 10), True)

    def test_other_data(self):
        for data in (None, 0, True, (), ("a",)):
            self.assertIs(is_text(data), False, data)


class Keys(unittest.TestCase):
    def test_bounds(self):
        self.assertEqual((KEY_SIGNS, VALUE_SIGNS, MOST_VALUE), (8, 20, 10 ** 15))

    def test_lengths(self):
        for length in range(0, 12):
            self.assertIs(is_key("k" * length), 1 <= length <= 8, length)

    def test_signs(self):
        good = "abcdefghijklmnopqrstuvwxyz0123456789"
        for code in range(0, 400):
            self.assertIs(is_key(chr(code)), chr(code) in good, code)
            self.assertIs(is_key("a" + chr(code)), chr(code) in good, code)
            self.assertIs(is_key(chr(code) + "0"), chr(code) in good, code)

    def test_digits_alone_and_all_eight(self):
        for data in ("0", "12345678", "z9z9z9z9", "abcdefgh"):
            self.assertIs(is_key(data), True, data)

    def test_other_data(self):
        for data in [*NEVER, None, 0, 1, -1]:
            self.assertIs(is_key(data), False, data)


class Values(unittest.TestCase):
    def test_integers(self):
        for data in (0, 1, -1, 10 ** 15, -10 ** 15, 10 ** 15 - 1):
            self.assertIs(is_value(data), True, data)
        for data in (10 ** 15 + 1, -10 ** 15 - 1, 10 ** 18, -10 ** 18):
            self.assertIs(is_value(data), False, data)

    def test_texts(self):
        for length in range(0, 25):
            self.assertIs(is_value("~" * length), length <= 20, length)
        for code in range(0, 400):
            self.assertIs(is_value("a" + chr(code)), chr(code) in TEXT_SIGNS, code)

    def test_other_data(self):
        for data in [*NEVER, None]:
            self.assertIs(is_value(data), False, data)


class Ranges(unittest.TestCase):
    def test_starts_and_ends(self):
        for start, end in (("", None), ("", "a"), ("a", None), ("a", "b"), ("00000000", "zzzzzzzz")):
            self.assertIs(is_range(start, end), True, (start, end))

    def test_an_end_that_is_not_above_the_start(self):
        for start, end in (("a", "a"), ("b", "a"), ("ab", "a")):
            self.assertIs(is_range(start, end), True, (start, end))

    def test_no_ranges(self):
        for start, end in ((None, None), ("", ""), ("a", ""), (None, "a"), ("A", None), ("", "A"), ("a" * 9, None)):
            self.assertIs(is_range(start, end), False, (start, end))
        for data in NEVER:
            self.assertIs(is_range(data, None), False, data)
            self.assertIs(is_range("", data), False, data)
        for data in (0, 1):
            self.assertIs(is_range(data, None), False, data)
            self.assertIs(is_range("", data), False, data)

    def test_keys_of_a_range(self):
        cases = [
            ("a", "", None, True), ("zzzzzzzz", "", None, True), ("0", "", "a", True), ("a", "", "a", False),
            ("b", "b", None, True), ("azzzzzzz", "b", None, False), ("b", "b", "c", True), ("bz", "b", "c", True),
            ("c", "b", "c", False), ("b", "b", "b", False), ("b", "c", "a", False), ("b", "a", "ba", True),
            ("ba", "b", "bb", True), ("b", "ba", None, False), ("9", "a", None, False),
        ]
        for key, start, end, wanted in cases:
            self.assertIs(key_in(key, start, end), wanted, (key, start, end))

    def test_ranges_within_a_range(self):
        cases = [
            ("", None, "", None, True), ("b", "c", "b", "c", True), ("b", "c", "", None, True),
            ("b", None, "b", None, True), ("b", None, "b", "z", False), ("a", "c", "b", "d", False),
            ("c", "e", "b", "d", False), ("b", "c", "b0", "c", False), ("b", "c0", "b", "c", False),
            ("c", "d", "a", "b", False), ("", "b", "a", None, False),
        ]
        for start, end, low, high, wanted in cases:
            self.assertIs(is_within(start, end, low, high), wanted, (start, end, low, high))

    def test_ranges_of_a_plan(self):
        self.assertEqual(with_ends((("", 2),)), [("", None, 2)])
        self.assertEqual(with_ends((("", 1), ("b", 2), ("b0", 1))), [("", "b", 1), ("b", "b0", 2), ("b0", None, 1)])


class Rows(unittest.TestCase):
    ROWS = {"b": 1, "a": "x", "ab": 0, "0": -5, "c": "", "b1": 2}

    def test_in_the_order_of_keys(self):
        wanted = (("0", -5), ("a", "x"), ("ab", 0), ("b", 1), ("b1", 2), ("c", ""))
        self.assertEqual(rows_in(self.ROWS, "", None), wanted)

    def test_just_the_range(self):
        self.assertEqual(rows_in(self.ROWS, "a", "b"), (("a", "x"), ("ab", 0)))
        self.assertEqual(rows_in(self.ROWS, "b", None), (("b", 1), ("b1", 2), ("c", "")))
        self.assertEqual(rows_in(self.ROWS, "", "a"), (("0", -5),))

    def test_nothing_there(self):
        self.assertEqual(rows_in(self.ROWS, "b", "b"), ())
        self.assertEqual(rows_in(self.ROWS, "c", "a"), ())
        self.assertEqual(rows_in({}, "", None), ())

    def test_rows_stay(self):
        rows = dict(self.ROWS)
        rows_in(rows, "a", "c")
        self.assertEqual(list(rows.items()), list(self.ROWS.items()))
