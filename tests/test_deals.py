"""Points [16] and [17]: deals, done whole or not at all."""

import unittest

from crosskeep.data.deals import MOST_CHECKS, MOST_DEEDS, do_deal, is_deal, keys_of
from samples import NEVER

CHECK = ("a", 5)
DEED = ("get", "a")


class IsDeal(unittest.TestCase):
    def test_numbers_of_checks_and_deeds(self):
        self.assertEqual((MOST_CHECKS, MOST_DEEDS), (4, 6))
        for checks in range(0, 6):
            for deeds in range(0, 8):
                wanted = checks <= 4 and deeds <= 6 and checks + deeds > 0
                self.assertIs(is_deal(((CHECK,) * checks, (DEED,) * deeds)), wanted, (checks, deeds))

    def test_checks(self):
        for check in (("a", None), ("a", 0), ("a", ""), ("a", "x" * 20), ("a", -10 ** 15), ("zzzzzzzz", 1)):
            self.assertIs(is_deal(((check,), ())), True, check)
            self.assertIs(is_deal(((CHECK, check), (DEED,))), True, check)

    def test_no_checks(self):
        wrong = [("a",), ("a", 1, 2), (), ("", 1), ("A", 1), (1, "a"), (None, None), "ab", ("a", "x" * 21)]
        wrong += [("a", 10 ** 15 + 1), ("a", True), ("a", False), ("a", ()), ("a", "%"), ("get", "a", 1), None, 7]
        for check in wrong + NEVER:
            self.assertIs(is_deal(((check,), (DEED,))), False, check)
            self.assertIs(is_deal(((CHECK, check), ())), False, check)

    def test_no_deeds(self):
        for deed in [("get",), ("get", ""), ("a", 5), ("add", "a", True), None, 7, "get", *NEVER]:
            self.assertIs(is_deal(((CHECK,), (deed,))), False, deed)
            self.assertIs(is_deal(((), (DEED, deed))), False, deed)

    def test_the_same_key_several_times(self):
        self.assertIs(is_deal(((CHECK, CHECK, ("a", None)), (DEED, DEED, ("del", "a")))), True)

    def test_other_data(self):
        wrong = [None, 0, "", (CHECK,), (DEED,), ((CHECK,),), ((CHECK,), (DEED,), ()), (CHECK, DEED), ((CHECK,), None)]
        for data in wrong + [(None, (DEED,)), ((CHECK,), "get"), ("", (DEED,)), (0, 0)] + NEVER:
            self.assertIs(is_deal(data), False, data)


class KeysOf(unittest.TestCase):
    def test_ascending_each_once(self):
        deal = ((("b", 1), ("ab", None), ("b", 2)), (("get", "z"), ("put", "a", 1), ("add", "b", 1), ("del", "0")))
        self.assertEqual(keys_of(deal), ("0", "a", "ab", "b", "z"))

    def test_checks_or_deeds_alone(self):
        self.assertEqual(keys_of(((("b", 1), ("a", 2)), ())), ("a", "b"))
        self.assertEqual(keys_of(((), (("get", "b"), ("get", "a")))), ("a", "b"))


class DoDeal(unittest.TestCase):
    def check(self, rows, deal, answer, behind):
        rows = dict(rows)
        self.assertEqual(do_deal(rows, deal), answer)
        self.assertEqual(rows, behind)

    def test_done_in_order(self):
        deeds = (("add", "a", 2), ("get", "a"), ("put", "b", "x"), ("del", "a"), ("get", "a"), ("put", "a", 1))
        answer = ("done", (7, 7, None, 7, None, None))
        self.check({"a": 5}, ((("a", 5), ("b", None)), deeds), answer, {"a": 1, "b": "x"})

    def test_checks_look_at_the_rows_ahead_of_all_deeds(self):
        self.check({"a": 5}, ((("a", 5),), (("put", "a", 6),)), ("done", (5,)), {"a": 6})
        self.check({"a": 5}, ((("a", 6),), (("put", "a", 6),)), ("unheld", (5,)), {"a": 5})

    def test_unheld_changes_nothing(self):
        deal = ((("b", None), ("a", 4), ("c", "x")), (("put", "a", 1), ("put", "d", 1)))
        self.check({"a": 5, "c": "x"}, deal, ("unheld", (None, 5, "x")), {"a": 5, "c": "x"})

    def test_one_check_of_several_that_does_not_hold(self):
        rows = {"a": 1, "b": 2, "c": 3}
        held = (("a", 1), ("b", 2), ("c", 3))
        self.check(rows, (held, ()), ("done", ()), rows)
        for place in range(3):
            checks = held[:place] + ((held[place][0], 9),) + held[place + 1:]
            self.check(rows, (checks, (("del", "a"),)), ("unheld", (1, 2, 3)), rows)

    def test_two_checks_of_one_key(self):
        self.check({"a": 1}, ((("a", 1), ("a", 1)), ()), ("done", ()), {"a": 1})
        self.check({"a": 1}, ((("a", 1), ("a", 2)), (("del", "a"),)), ("unheld", (1, 1)), {"a": 1})

    def test_nothing_a_zero_and_empty_text_differ(self):
        for value, others in ((0, (None, "", "0")), ("", (None, 0)), ("1", (None, 1))):
            self.check({"a": value}, ((("a", value),), ()), ("done", ()), {"a": value})
            for other in others:
                self.check({"a": value}, ((("a", other),), ()), ("unheld", (value,)), {"a": value})
        self.check({}, ((("a", None),), ()), ("done", ()), {})
        self.check({}, ((("a", 0),), ()), ("unheld", (None,)), {})

    def test_a_deed_without_effect_does_not_stop_the_deal(self):
        deal = ((), (("add", "a", 1), ("put", "b", 2)))
        self.check({"a": "x"}, deal, ("done", (None, None)), {"a": "x", "b": 2})
