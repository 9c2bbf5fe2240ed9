"""Point [89]: calls that are told by tuples."""

import unittest

from crosskeep.errors import LinkCut, NoClient, NodeUp, NoMessage, NoNode, NotDeal, OutOfRange
from crosskeep.world.world import World
from keepers import dump
from worlds import ONE_CELL, THREE_NODES, bodies, puts

DEAL = puts(("a", 1))

# Each word with arguments with which the call is not refused, in a world with a message and a node that is down.
GOOD = {
    "deliver": (0,), "drop": (0,), "double": (0,), "cut": (0, 10), "heal": (0, 10), "tick": (10,), "sync": (10,),
    "crash": (10, 5), "restart": (12,), "wipe": (11,), "members": (10, (0, 2)), "give": (10, "", "c", 2),
    "call": (0, DEAL, 0), "again": (1, 0), "calm": (3,),
}
# The places of the arguments that are no numbers.
FREE = {("give", 1), ("give", 2), ("call", 1), ("members", 1)}
NO_NUMBERS = (-1, -(10 ** 18), True, False, None, "1", "", (), (1,), 1.0, [1])


def some_world():
    world = World(*THREE_NODES)
    world.call(1, DEAL, 0)
    world.crash(12, 0)
    return world


class Perform(unittest.TestCase):
    def refuse(self, call, error=OutOfRange):
        world = some_world()
        before = dump(world)
        with self.assertRaises(error) as caught:
            world.perform(call)
        self.assertIs(type(caught.exception), error, call)
        self.assertEqual(dump(world), before)

    def test_each_word_does_what_the_call_does(self):
        for word, arguments in GOOD.items():
            first, second = some_world(), some_world()
            if word == "heal":
                first.cut(0, 10)
                second.cut(0, 10)
            before = dump(first)
            told = first.perform((word,) + arguments)
            if word == "give":
                arguments = (10, ("", "c"), 2)
            self.assertEqual(told, getattr(second, word)(*arguments), word)
            self.assertEqual(dump(first), dump(second), word)
            self.assertEqual(dump(first) != before, word != "sync", word)

    def test_what_is_returned(self):
        world = World(*THREE_NODES)
        told = [world.perform(call) for call in (
            ("call", 3, DEAL, 0), ("double", 0), ("double", 1), ("drop", 1), ("deliver", 0), ("again", 3, 1),
            ("give", 20, "p", None, 1), ("give", 20, "p", "q", 1), ("members", 11, (1,)), ("members", 11, (1,)),
            ("calm", 0),
        )]
        self.assertEqual(told, [1, 1, 2, None, None, None, 1, 2, True, False, None])

    def test_other_words(self):
        for word in ("", "perform", "Tick", "ticks", "calls", "kind", "tick ", "plan", "_kind_round", "__init__"):
            for arguments in ((), (10,), (10, 0)):
                self.refuse((word,) + arguments)

    def test_words_that_are_no_texts(self):
        for word in (None, 5, True, (), ("tick",), ["tick"]):
            self.refuse((word,))
            self.refuse((word, 10))

    def test_no_word(self):
        self.refuse(())
        for call in ("tick", ["tick", 10], None, 5, {}):
            self.refuse(call)

    def test_numbers_of_arguments(self):
        for word, arguments in GOOD.items():
            for count in range(6):
                if count != len(arguments):
                    self.refuse((word,) + (arguments + (0, 0, 0, 0, 0))[:count])
        self.refuse(("give", 10, ("", "c"), 2))

    def test_arguments_that_are_no_numbers(self):
        for word, arguments in GOOD.items():
            for place in range(len(arguments)):
                for data in NO_NUMBERS:
                    if (word, place) not in FREE:
                        self.refuse((word,) + arguments[:place] + (data,) + arguments[place + 1:])

    def test_members_that_are_no_tuple_of_numbers(self):
        for data in (0, None, "0", [0, 2], ((0,),), (0, "2"), (-1, 0), (0, True), (False,), (None,)):
            self.refuse(("members", 10, data))
            self.refuse(("members", 99, data))

    def test_these_are_looked_for_first(self):
        self.refuse(("crash", 99, -1))
        self.refuse(("crash", 99, 5), NoNode)
        self.refuse(("give", 99, "B", 5, -1))
        self.refuse(("give", 99, "B", 5, 1), NoNode)
        self.refuse(("call", 9, 5, -1))
        self.refuse(("call", 9, 5, 0), NoClient)
        self.refuse(("deliver", -1))
        self.refuse(("deliver", 99), NoMessage)
        self.refuse(("members", 99, ()), NoNode)
        self.refuse(("members", 10, ()))

    def test_arguments_of_any_kind_are_judged_by_the_call(self):
        for data in (None, 5, "x", (), True, ("get", "a"), ((), ())):
            self.refuse(("call", 0, data, 0), NotDeal)
        for start, end in ((None, None), (5, None), ("b", "a"), ("a", 5), ((), None), (True, False)):
            self.refuse(("give", 10, start, end, 2))

    def test_refusals_of_the_calls(self):
        self.refuse(("restart", 10), NodeUp)
        self.refuse(("calm", 401))
        self.refuse(("crash", 10, 1000001))
        world = World(*ONE_CELL)
        world.perform(("call", 0, DEAL, 0))
        world.perform(("cut", 0, 10))
        with self.assertRaises(LinkCut):
            world.perform(("deliver", 0))
        world.perform(("heal", 0, 10))
        world.perform(("deliver", 0))
        self.assertEqual(bodies(world), [(10, 10, ("ask", 1, (1, 0)))])

    def test_what_is_passed_stays(self):
        world = some_world()
        call = ("call", 0, puts(("a", 1), ("z", 2)), 4)
        world.perform(call)
        self.assertEqual(call, ("call", 0, puts(("a", 1), ("z", 2)), 4))


if __name__ == "__main__":
    unittest.main()
