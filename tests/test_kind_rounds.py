"""Points [87] and [88]: kind rounds."""

import unittest
from random import Random

from crosskeep.errors import OutOfRange
from crosskeep.world.world import World
from keepers import dump
from worlds import LAZY, ONE_CELL, ROUGH, THREE_NODES, TWO_CELLS, Walk, bodies, puts

DEAL = puts(("a", 1))
FAR = puts(("z", 1))


def by_hand(world):
    """A kind round as point [88] tells it, but for its count and the requests behind each sixth one."""
    up = [endpoint for endpoint in sorted(world.stations) if world.stations[endpoint].node.state == "up"]
    for endpoint in up:
        world.sync(endpoint)
    for number in world.bag.numbers():
        _, receiver, _ = world.bag.message(number)
        runs = receiver < 4 or world.stations[receiver].node.state == "up"
        if runs and not world.bag.is_cut(number):
            world.deliver(number)
        else:
            world.drop(number)
    for endpoint in up:
        world.tick(endpoint)


class KindRounds(unittest.TestCase):
    def test_as_by_hand(self):
        for seed in range(40):
            worlds = []
            for _ in range(2):
                walk = Walk(Random(seed), kind=False)
                for _ in range(150):
                    walk.step({**ROUGH, "calm": 0})
                worlds.append(walk.world)
            kind, plain = worlds
            self.assertEqual(dump(kind), dump(plain))
            for _ in range(5):
                self.assertIsNone(kind.calm(1))
                by_hand(plain)
                self.assertEqual(dump(kind.bag), dump(plain.bag))
                self.assertEqual(dump(kind.stations), dump(plain.stations))
            self.assertEqual((kind.rounds, plain.rounds), (5, 0))
            self.assertEqual(kind.history.rows(), plain.history.rows())

    def test_the_order(self):
        world = World(*LAZY)
        world.call(0, DEAL, 0)
        world.call(1, FAR, 0)
        world.deliver(1)
        world.deliver(0)
        # Both nodes have an ask that waits for a sync: it is on its way in the same round.
        self.assertEqual(bodies(world), [])
        world.calm(1)
        self.assertEqual([(sender, body[0]) for sender, _, body in bodies(world)], [(10, "promise"), (20, "promise")])
        self.assertEqual([station.due for station in world.stations.values()], [3, 3])

    def test_messages_of_this_moment(self):
        world = World(*ONE_CELL)
        world.call(0, DEAL, 0)
        told = []
        for _ in range(6):
            told.append([body[0] for _, _, body in bodies(world)])
            world.calm(1)
        self.assertEqual(told, [["request"], ["ask"], ["promise"], ["tell"], ["voted"], ["answer"]])
        self.assertEqual(world.history.rows()[0][5], ("done", (None,)))

    def test_dropped_where_it_is_refused(self):
        for word in ("crash", "wipe", "cut"):
            world = World(*THREE_NODES)
            world.call(0, DEAL, 1)
            world.call(1, FAR, 0)
            if word == "cut":
                world.cut(0, 11)
            else:
                world.perform((word, 11) + ((0,) if word == "crash" else ()))
            world.calm(1)
            self.assertEqual([message for message in bodies(world) if message[2][0] == "request"], [])
            self.assertEqual([(sender, body[0]) for sender, _, body in bodies(world)], [(20, "ask")])

    def test_answers_are_dropped_where_the_link_is_cut(self):
        world = World(*ONE_CELL)
        world.call(0, DEAL, 0)
        world.cut(10, 0)
        world.calm(11)
        self.assertIsNotNone(world.clients[0].call)
        self.assertEqual(world.bag.numbers(), [])
        world.heal(10, 0)
        world.calm(3)
        self.assertIsNone(world.clients[0].call)

    def test_nodes_that_are_not_up_do_nothing(self):
        world = World(*THREE_NODES)
        world.crash(11, 0)
        world.wipe(12)
        world.calm(3)
        self.assertEqual([station.due for station in world.stations.values()], [1, 5, 6, 1])

    def test_the_count(self):
        world = World(*TWO_CELLS)
        for rounds, count in ((0, 0), (1, 1), (4, 5), (0, 5), (13, 18)):
            self.assertIsNone(world.calm(rounds))
            self.assertEqual(world.rounds, count)

    def test_too_many_rounds(self):
        world = World(*ONE_CELL)
        before = dump(world)
        for rounds in (401, 402, 10 ** 9):
            with self.assertRaises(OutOfRange):
                world.calm(rounds)
        self.assertEqual(dump(world), before)
        world.calm(400)
        self.assertEqual(world.rounds, 400)


class Requests(unittest.TestCase):
    def world(self):
        """A world in which no node hears what the clients ask."""
        world = World((3, 2, 1), ((0, 1, 2), (0,), (0,)), (("", 1), ("m", 2), ("t", 3)), False)
        for endpoint in (10, 11, 12, 30):
            world.cut(2, endpoint)
            world.cut(0, endpoint)
        world.call(2, DEAL, 0)
        world.call(0, FAR, 0)
        world.call(1, puts(("m", 1)), 0)
        world.crash(20, 0)
        world.crash(21, 0)
        return world

    def test_behind_each_sixth_round(self):
        world = self.world()
        told = []
        for _ in range(43):
            world.calm(1)
            told.append([(sender, receiver) for sender, receiver, body in bodies(world) if body[0] == "request"])
        self.assertEqual([place for place, pairs in enumerate(told, 1) if pairs], [6, 12, 18, 24, 30, 36, 42])
        for place, pairs in enumerate(told[5::6], 1):
            # In the order of the clients, each to the node that the count of the rounds tells.
            self.assertEqual(pairs, [(0, 30), (1, 20 + place % 2), (2, 10 + place % 3)])

    def test_what_is_asked(self):
        world = self.world()
        world.calm(6)
        self.assertEqual([body for sender, _, body in bodies(world) if sender == 2], [
            ("request", 1, DEAL, (("a", 1),))])

    def test_the_count_goes_on_from_call_to_call(self):
        world = self.world()
        for _ in range(2):
            world.calm(3)
        self.assertEqual(len([body for _, _, body in bodies(world) if body[0] == "request"]), 3)

    def test_clients_without_an_open_call(self):
        world = World(*ONE_CELL)
        world.call(0, DEAL, 0)
        world.calm(6)
        for _ in range(3):
            world.calm(6)
            self.assertEqual([body for _, _, body in bodies(world) if body[0] == "request"], [])
        self.assertEqual(len(world.onlooker.chosen), 1)


if __name__ == "__main__":
    unittest.main()
