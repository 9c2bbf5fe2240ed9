"""Points [102] and [103]: running schedules, and shortening those that fail."""

import unittest
from random import Random

from crosskeep.errors import CrossError, LinkCut, Malformed, NoMessage, OutOfRange
from crosskeep.script.runs import run, shorten
from crosskeep.world.world import World
from worlds import ONE_CELL, puts


class Counter:
    """A world of another kind: it counts up, and refuses in many ways."""

    errors = {"malformed": Malformed, "range": OutOfRange, "message": NoMessage, "cut": LinkCut, "cross": CrossError}

    def __init__(self):
        self.count = 0
        self.seen = []

    def perform(self, call):
        self.seen.append(call)
        if call[0] in self.errors:
            raise self.errors[call[0]]("refused")
        if call[0] == "value":
            raise ValueError("none of this package")
        self.count += call[1]
        return None if call[1] == 0 else self.count


class Run(unittest.TestCase):
    def test_calls_in_order(self):
        world = Counter()
        calls = [("add", 2), ("add", 0), ("add", 3)]
        self.assertEqual(run(world, calls), [(True, 2), (True, None), (True, 5)])
        self.assertEqual((world.seen, world.count), (calls, 5))

    def test_no_calls(self):
        self.assertEqual(run(Counter(), []), [])

    def test_refused_calls(self):
        world = Counter()
        calls = [("add", 1)] + [(word,) for word in Counter.errors] + [("add", 1)]
        self.assertEqual(run(world, calls), [(True, 1)] + [(False, None)] * 5 + [(True, 2)])
        self.assertEqual(world.seen, calls)

    def test_errors_that_are_none_of_this_package(self):
        with self.assertRaises(ValueError) as caught:
            run(Counter(), [("add", 1), ("value",)])
        self.assertIs(type(caught.exception), ValueError)

    def test_on_a_world(self):
        world = World(*ONE_CELL)
        calls = [
            ("call", 0, puts(("a", 1)), 0), ("call", 0, puts(("a", 1)), 0), ("nonsense", 5), ("deliver", 9),
            ("double", 0), ("calm", 401), ("tick", 10, 10), ("restart", 10), ("calm", 12), ("give", 10, "", None, 2),
            ("members", 10, (0,)), ("call", 0, puts(("a", 2)), 0),
        ]
        self.assertEqual(run(world, calls), [
            (True, 1), (False, None), (False, None), (False, None), (True, 1), (False, None), (False, None),
            (False, None), (True, None), (False, None), (True, False), (True, 2)])
        self.assertEqual(len(world.history.rows()), 2)

    def test_what_is_passed_stays_and_what_is_returned_is_new(self):
        calls = [("add", 1), ("cut",)]
        first = run(Counter(), calls)
        self.assertEqual(calls, [("add", 1), ("cut",)])
        first.clear()
        self.assertEqual(run(Counter(), calls), [(True, 1), (False, None)])


class Shorten(unittest.TestCase):
    def check(self, calls, fails, left):
        before = list(calls)
        told = shorten(calls, fails)
        self.assertEqual(told, left)
        self.assertEqual(calls, before)
        self.assertIsNot(told, calls)
        if fails(list(told)):
            for place in range(len(told)):
                self.assertFalse(fails(told[:place] + told[place + 1:]))

    def names(self, text):
        return [(name,) for name in text]

    def test_that_does_not_fail(self):
        for text in ("", "a", "abc"):
            self.check(self.names(text), lambda calls: False, self.names(text))

    def test_that_fails_when_empty(self):
        for text in ("", "a", "abcd"):
            self.check(self.names(text), lambda calls: True, [])

    def test_one_that_lets_fail(self):
        self.check(self.names("abcd"), lambda calls: ("c",) in calls, self.names("c"))

    def test_two_that_only_together_let_fail(self):
        fails = {("b",), ("d",)}
        self.check(self.names("abcde"), lambda calls: fails <= set(calls), self.names("bd"))

    def test_the_first_that_may_be_left_out_goes_first(self):
        self.check(self.names("abc"), lambda calls: len(calls) > 0, self.names("c"))
        self.check(self.names("aba"), lambda calls: ("a",) in calls, self.names("a"))
        self.check([("a", 1), ("a", 2)], lambda calls: len(calls) > 0, [("a", 2)])

    def test_behind_each_one_the_first_again(self):
        # "a" may only be left out when "b" is gone: then it goes ahead of "c".
        bad = {"abcd", "acd", "cd", "ad", "ac", "d"}
        asked = []

        def fails(calls):
            asked.append("".join(call[0] for call in calls))
            return asked[-1] in bad

        self.assertEqual(shorten(self.names("abcd"), fails), self.names("d"))
        self.assertEqual(asked, ["abcd", "bcd", "acd", "cd", "d", ""])

    def test_calls_that_are_alike(self):
        self.check(self.names("aaaa"), lambda calls: len(calls) >= 2, self.names("aa"))

    def test_against_the_plain_reading(self):
        random = Random(103)
        for _ in range(300):
            calls = [(name,) for name in random.sample("abcdef", random.randint(0, 6))]
            bad = {tuple(call for call in calls if random.random() < 0.7) for _ in range(random.randint(0, 12))}
            bad.add(tuple(calls))

            def fails(told):
                return tuple(told) in bad

            left = list(calls)
            shorter = True
            while shorter:
                shorter = [left[:place] + left[place + 1:] for place in range(len(left))
                           if fails(left[:place] + left[place + 1:])][:1]
                left = shorter[0] if shorter else left
            self.check(calls, fails, left)

    def test_fails_may_change_what_it_is_passed(self):
        def fails(calls):
            told = ("c",) in calls
            calls.clear()
            return told

        self.assertEqual(shorten(self.names("abcd"), fails), self.names("c"))
        self.assertEqual(shorten(self.names("abd"), fails), self.names("abd"))

    def test_a_schedule_of_a_world(self):
        calls = [("call", 1, puts(("b", 1)), 0), ("tick", 10), ("call", 0, puts(("a", 1)), 0), ("cut", 10, 1),
                 ("calm", 5), ("calm", 8), ("sync", 10)]

        def fails(told):
            world = World(*ONE_CELL)
            run(world, told)
            return [row[5] for row in world.history.rows() if row[0] == 0] == [("done", (None,))]

        self.assertEqual(shorten(calls, fails), [("call", 0, puts(("a", 1)), 0), ("calm", 8)])


if __name__ == "__main__":
    unittest.main()
