"""Points [104] and [105]: exploring."""

import unittest
from itertools import product

from crosskeep.errors import OutOfRange
from crosskeep.script.explore import explore
from crosskeep.world.world import World
from worlds import ONE_CELL, TWO_CELLS, puts


class Walker:
    """A world that is a number; it goes up or down, and never below 0."""

    made = []

    def __init__(self):
        self.at = 0
        self.calls = []
        Walker.made.append(self)

    def perform(self, call):
        self.calls.append(call)
        if call[0] == "never" or self.at + call[1] < 0:
            raise OutOfRange("refused")
        self.at += call[1]


UP, DOWN, TWICE = ("up", 1), ("down", -1), ("twice", 2)


class Explore(unittest.TestCase):
    def explore(self, choices, depth, wanted):
        """What is found, and which schedules were run, in order."""
        Walker.made = []
        before = list(choices)
        found, count = explore(Walker, choices, depth, wanted)
        self.assertEqual(choices, before)
        self.assertEqual(count, len(Walker.made))
        return found, [world.calls for world in Walker.made]

    def test_all_schedules_in_order(self):
        found, runs = self.explore([UP, TWICE], 3, lambda world: False)
        self.assertIsNone(found)
        self.assertEqual(runs, [list(row) for length in range(4) for row in product([UP, TWICE], repeat=length)])

    def test_depth_0(self):
        self.assertEqual(self.explore([UP], 0, lambda world: False), (None, [[]]))
        self.assertEqual(self.explore([UP], 0, lambda world: world.at == 1), (None, [[]]))

    def test_no_choices(self):
        self.assertEqual(self.explore([], 5, lambda world: False), (None, [[]]))

    def test_a_wanted_world_at_the_start(self):
        for depth in (0, 3):
            self.assertEqual(self.explore([UP, DOWN], depth, lambda world: world.at == 0), ([], [[]]))

    def test_the_first_that_is_found(self):
        self.assertEqual(self.explore([DOWN, UP, TWICE], 4, lambda world: world.at == 2),
                         ([TWICE], [[], [DOWN], [UP], [TWICE]]))
        self.assertEqual(self.explore([UP, TWICE], 4, lambda world: world.at == 3)[0], [UP, TWICE])
        self.assertEqual(self.explore([TWICE, UP], 4, lambda world: world.at == 3)[0], [TWICE, UP])
        self.assertEqual(self.explore([UP, DOWN], 4, lambda world: world.at == 4)[0], [UP] * 4)
        self.assertIsNone(self.explore([UP, DOWN], 3, lambda world: world.at == 4)[0])

    def test_the_number_of_runs_ends_with_what_is_found(self):
        _, runs = self.explore([UP, TWICE], 2, lambda world: world.at == 3)
        self.assertEqual(runs, [[], [UP], [TWICE], [UP, UP], [UP, TWICE]])

    def test_refused_calls_are_not_gone_on_with(self):
        found, runs = self.explore([DOWN, UP], 2, lambda world: False)
        self.assertIsNone(found)
        self.assertEqual(runs, [[], [DOWN], [UP], [UP, DOWN], [UP, UP]])
        found, runs = self.explore([("never",)], 4, lambda world: False)
        self.assertEqual((found, runs), (None, [[], [("never",)]]))
        never = ("never",)
        found, runs = self.explore([UP, never], 3, lambda world: world.at == 2 and world.calls[-1] == never)
        self.assertEqual((found, runs), (None, [[], [UP], [never], [UP, UP], [UP, never], [UP, UP, UP],
                                                [UP, UP, never]]))

    def test_a_refused_call_leads_to_no_wanted_world(self):
        # The world behind it would be wanted.
        found, _ = self.explore([("never",), UP], 1, lambda world: len(world.calls) == 1)
        self.assertEqual(found, [UP])
        self.assertIsNone(self.explore([("never",)], 3, lambda world: len(world.calls) > 0)[0])

    def test_a_wanted_rule_is_asked_once_for_each_world_that_may_be(self):
        asked = []

        def wanted(world):
            asked.append(list(world.calls))
            return False

        self.explore([DOWN, UP], 2, wanted)
        self.assertEqual(asked, [[], [UP], [UP, DOWN], [UP, UP]])

    def test_several_choices_alike(self):
        found, runs = self.explore([UP, UP], 2, lambda world: False)
        self.assertEqual((found, len(runs)), (None, 1 + 2 + 4))
        found, runs = self.explore([UP, UP], 2, lambda world: world.at == 2)
        self.assertEqual((found, len(runs)), ([UP, UP], 4))

    def test_each_on_a_new_world(self):
        self.explore([UP, TWICE], 3, lambda world: False)
        self.assertEqual(len(set(map(id, Walker.made))), 1 + 2 + 4 + 8)
        self.assertTrue(all(world.at == sum(call[1] for call in world.calls) for world in Walker.made))

    def test_lists_that_are_returned_are_new(self):
        choices = [UP, DOWN]
        found, _ = explore(Walker, choices, 2, lambda world: world.at == 1)
        found.append("x")
        self.assertEqual(choices, [UP, DOWN])
        self.assertEqual(explore(Walker, choices, 2, lambda world: world.at == 1)[0], [UP])


class Worlds(unittest.TestCase):
    def test_how_a_deal_gets_done(self):
        def make_world():
            world = World(*ONE_CELL)
            world.call(0, puts(("a", 1)), 0)
            return world

        found, count = explore(make_world, [("crash", 10, 0), ("calm", 1), ("restart", 10)], 8,
                               lambda world: world.history.rows()[0][5] is not None)
        self.assertEqual(found, [("calm", 1)] * 6)
        self.assertGreater(count, 20)

    def test_no_two_answers_to_one_call(self):
        def make_world():
            world = World(*TWO_CELLS)
            world.call(0, puts(("a", 1), ("z", 1)), 0)
            world.calm(4)
            return world

        choices = [("calm", 2), ("crash", 10, 0), ("restart", 10), ("again", 0, 0), ("crash", 20, 0), ("restart", 20)]
        found, count = explore(make_world, choices, 4,
                               lambda world: world.history.rows()[0][5] not in (None, ("done", (None, None))))
        self.assertIsNone(found)
        self.assertGreater(count, 100)


if __name__ == "__main__":
    unittest.main()
