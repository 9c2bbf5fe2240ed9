"""Point [90]: the one who looks on."""

import unittest
from random import Random

from crosskeep.ledger.tally import Tally
from crosskeep.world.onlooker import Onlooker
from crosskeep.world.plan import Plan
from crosskeep.world.world import World
from worlds import THREE_NODES, WEIGHTS, Walk, puts

PLAN = Plan((3, 2), ((0, 1, 2), (1,)), (("", 1), ("m", 2)), False)


def batch(*names):
    return ("batch", tuple((name,) for name in names))


class Onlookers(unittest.TestCase):
    def test_at_first(self):
        onlooker = Onlooker(PLAN)
        self.assertEqual([type(tally) for tally in onlooker.tallies], [Tally, Tally])
        self.assertEqual([tally.first_members for tally in onlooker.tallies], [(0, 1, 2), (1,)])
        self.assertEqual((onlooker.chosen, onlooker.commands()), ([], []))

    def test_votes_that_choose(self):
        onlooker = Onlooker(PLAN)
        self.assertIsNone(onlooker.see(1, 0, [(1, (1, 0), batch("a"))]))
        self.assertEqual(onlooker.chosen, [])
        onlooker.see(2, 1, [(1, (1, 1), batch("b", "c")), (2, (1, 1), ("members", (0,)))])
        onlooker.see(2, 1, [(3, (1, 1), batch("d"))])
        self.assertEqual(onlooker.chosen, [(2, batch("b", "c")), (2, ("members", (0,)))])
        onlooker.see(1, 2, [(1, (1, 0), batch("a"))])
        self.assertEqual(onlooker.chosen, [(2, batch("b", "c")), (2, ("members", (0,))), (1, batch("a"))])
        self.assertEqual(onlooker.commands(), [(2, ("b",)), (2, ("c",)), (1, ("a",))])
        self.assertEqual([tally.row for tally in onlooker.tallies],
                         [[batch("a")], [batch("b", "c"), ("members", (0,))]])
        self.assertEqual(onlooker.tallies[0].votes, [(1, 0, (1, 0), batch("a")), (1, 2, (1, 0), batch("a"))])

    def test_several_entries_at_once(self):
        onlooker = Onlooker(PLAN)
        onlooker.see(2, 1, [(3, (1, 1), batch("c")), (2, (1, 1), batch("b"))])
        self.assertEqual(onlooker.chosen, [])
        onlooker.see(2, 1, [(1, (1, 1), batch("a")), (4, (1, 1), batch("d"))])
        self.assertEqual(onlooker.chosen, [(2, batch(name)) for name in "abcd"])

    def test_no_votes(self):
        onlooker = Onlooker(PLAN)
        onlooker.see(1, 0, [])
        self.assertEqual((onlooker.chosen, onlooker.tallies[0].votes), ([], []))

    def test_lists_stay_and_are_new(self):
        onlooker = Onlooker(PLAN)
        votes = [(1, (1, 1), batch("a"))]
        onlooker.see(2, 1, votes)
        self.assertEqual(votes, [(1, (1, 1), batch("a"))])
        votes.clear()
        onlooker.commands().append("x")
        self.assertEqual(onlooker.commands(), [(2, ("a",))])


class InAWorld(unittest.TestCase):
    def test_in_the_order_in_which_they_are_chosen(self):
        world = World(*THREE_NODES)
        world.call(0, puts(("z", 1)), 0)
        world.calm(10)
        world.call(1, puts(("a", 1)), 0)
        world.calm(10)
        world.call(2, puts(("z", 2)), 0)
        world.calm(10)
        self.assertEqual([cell for cell, _ in world.onlooker.chosen], [2, 1, 2])
        self.assertEqual([(cell, command[1]) for cell, command in world.onlooker.commands()], [(2, 0), (1, 1), (2, 2)])

    def test_as_soon_as_it_is_chosen(self):
        world = World(*THREE_NODES)
        world.call(0, puts(("a", 1)), 0)
        while not world.onlooker.chosen:
            votes = len(world.onlooker.tallies[0].votes)
            number = world.bag.numbers()[0]
            tells = world.bag.message(number)[2][0] == "tell"
            world.deliver(number)
            self.assertEqual(len(world.onlooker.tallies[0].votes), votes + tells)
        self.assertEqual(len(world.onlooker.tallies[0].votes), 2)
        self.assertEqual([station.node.upto for station in world.stations.values()], [0, 0, 0, 0])

    def test_rows_of_nodes_are_chosen(self):
        for seed in range(30):
            walk = Walk(Random(seed), kind=False)
            for _ in range(150):
                walk.step(WEIGHTS)
                chosen = walk.world.onlooker.chosen
                for cell, tally in enumerate(walk.world.onlooker.tallies, 1):
                    self.assertEqual([entry for other, entry in chosen if other == cell], tally.row)
                for station in walk.world.stations.values():
                    row = walk.world.onlooker.tallies[station.cell - 1].row
                    self.assertEqual(station.node.record.row, row[:station.node.upto])


if __name__ == "__main__":
    unittest.main()
