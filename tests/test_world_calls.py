"""Points [82] and [86] to [88]: the calls of a world, what they do and when they are refused."""

import unittest

from crosskeep.bag.bag import Bag
from crosskeep.clients.beliefs import first_beliefs
from crosskeep.errors import CallOpen, CrossError, LinkCut, NoCall, NoClient, NodeDown, NodeGone, NodeUp, NoMessage
from crosskeep.errors import NoNode, NotDeal, OutOfRange
from crosskeep.world.onlooker import Onlooker
from crosskeep.world.station import Station
from crosskeep.world.world import World
from keepers import dump
from samples import NEVER
from worlds import LAZY, ONE_CELL, THREE_NODES, TWO_CELLS, bodies, puts, send

NOWHERE = (4, 9, 13, 19, 21, 30, 100)
DEAL = puts(("a", 1))
WIDE = puts(("a", 1), ("z", 2))


def as_tuple(word, arguments):
    if word == "give":
        endpoint, (start, end), target = arguments
        return (word, endpoint, start, end, target)
    return (word,) + arguments


class WorldCase(unittest.TestCase):
    def refuse(self, error, world, word, *arguments):
        """The call is refused by this error, and changes nothing; so is the tuple that tells it."""
        before = dump(world)
        for do in (lambda: getattr(world, word)(*arguments), lambda: world.perform(as_tuple(word, arguments))):
            with self.assertRaises(error) as caught:
                do()
            self.assertIs(type(caught.exception), error)
            self.assertIs(error.__base__, CrossError)
            self.assertEqual(dump(world), before)

    def refuse_standing(self, world, word, *arguments):
        for endpoint in NOWHERE + (0, 3):
            self.refuse(NoNode, world, word, endpoint, *arguments)
        world.wipe(11)
        self.refuse(NodeGone, world, word, 11, *arguments)

    def refuse_running(self, world, word, *arguments):
        self.refuse_standing(world, word, *arguments)
        world.crash(12, 0)
        self.refuse(NodeDown, world, word, 12, *arguments)


class NewWorld(unittest.TestCase):
    def test_fields(self):
        world = World(*THREE_NODES)
        self.assertEqual((world.plan.sizes, world.plan.members, world.plan.ranges, world.plan.lazy), THREE_NODES)
        self.assertIsInstance(world.bag, Bag)
        self.assertEqual((world.bag.numbers(), world.bag.links()), ([], []))
        self.assertEqual(list(world.stations), [10, 11, 12, 20])
        for endpoint, station in world.stations.items():
            self.assertIsInstance(station, Station)
            self.assertEqual((station.endpoint, station.node.state), (endpoint, "up"))
        self.assertEqual([(client.number, client.call, client.beliefs) for client in world.clients],
                         [(0, None, first_beliefs(THREE_NODES[2]))] * 4)
        self.assertIsInstance(world.clients, list)
        self.assertEqual((world.history.rows(), world.history.events), ([], 0))
        self.assertIsInstance(world.onlooker, Onlooker)
        self.assertEqual((world.movers, world.rounds), (0, 0))

    def test_all_stations(self):
        world = World((2, 7, 1, 3), ((0,), (6,), (0,), (1,)), (("", 4),), True)
        self.assertEqual(sorted(world.stations), [10, 11] + list(range(20, 27)) + [30, 40, 41, 42])
        self.assertTrue(all(station.node.lazy for station in world.stations.values()))

    def test_the_example_of_the_interface(self):
        world = World((3, 1), ((0, 1, 2), (0,)), (("", 1), ("m", 2)), False)
        self.assertEqual(world.call(0, ((), (("put", "a", 5), ("put", "z", 6))), 0), 1)
        self.assertIsNone(world.calm(40))
        self.assertEqual(world.history.rows()[0][5], ("done", (None, None)))
        self.assertEqual(world.perform(("give", 10, "", "c", 2)), 1)
        self.assertIsNone(world.calm(40))
        self.assertEqual(world.stations[20].node.machine.key_rows(), [("a", 5), ("z", 6)])


class Deliver(WorldCase):
    def world(self):
        """The first message is a request to 12, the others are what it asked the nodes of its cell."""
        world = World(*THREE_NODES)
        world.call(0, DEAL, 2)
        world.double(0)
        world.deliver(1)
        return world

    def test_to_a_node(self):
        world = self.world()
        self.assertEqual(bodies(world)[1:], [(12, 10, ("ask", 1, (1, 2))), (12, 11, ("ask", 1, (1, 2))),
                                             (12, 12, ("ask", 1, (1, 2)))])
        self.assertIsNone(world.deliver(3))
        self.assertEqual(bodies(world)[1:], [(12, 10, ("ask", 1, (1, 2))), (12, 12, ("ask", 1, (1, 2))),
                                             (11, 12, ("promise", 1, (1, 2), None))])

    def test_to_a_client(self):
        world = World(*ONE_CELL)
        world.call(2, DEAL, 0)
        self.assertIsNone(send(world, 10, 2, ("answer", 2, ("busy",))))
        self.assertEqual(world.history.rows()[0][4:], (None, None))
        self.assertIsNotNone(world.clients[2].call)
        send(world, 10, 2, ("answer", 1, ("moved", (("", "c", 4, 7),))))
        self.assertEqual(world.history.rows(), [(2, 1, DEAL, 0, 1, ("moved", (("", "c", 4, 7),)))])
        self.assertEqual((world.clients[2].call, world.clients[2].beliefs[0]), (None, ("", "c", 4, 7)))
        send(world, 10, 2, ("answer", 1, ("busy",)))
        self.assertEqual((world.history.events, world.history.rows()[0][5][0]), (2, "moved"))
        self.assertEqual(world.bag.numbers(), [0])

    def test_messages_that_are_not_there(self):
        world = self.world()
        for number in (1, 5, 99):
            self.refuse(NoMessage, world, "deliver", number)
        world.drop(0)
        self.refuse(NoMessage, world, "deliver", 0)

    def test_a_link_that_is_cut_to_a_node(self):
        world = self.world()
        world.cut(12, 11)
        world.wipe(11)
        self.refuse(LinkCut, world, "deliver", 3)
        world.heal(12, 11)
        self.refuse(NodeGone, world, "deliver", 3)

    def test_a_link_that_is_cut_to_a_client(self):
        world = World(*ONE_CELL)
        world.call(0, DEAL, 0)
        number = world.bag.send(10, 0, ("answer", 1, ("busy",)))
        world.cut(10, 0)
        self.refuse(LinkCut, world, "deliver", number)
        world.heal(10, 0)
        world.cut(0, 10)
        world.deliver(number)
        self.assertIsNone(world.clients[0].call)

    def test_receivers_that_do_not_run(self):
        world = self.world()
        world.crash(11, 0)
        self.refuse(NodeDown, world, "deliver", 3)
        world.cut(12, 11)
        self.refuse(LinkCut, world, "deliver", 3)
        world.heal(12, 11)
        world.restart(11)
        world.deliver(3)
        world.wipe(10)
        self.refuse(NodeGone, world, "deliver", 2)

    def test_a_sender_that_does_not_run(self):
        world = self.world()
        world.wipe(12)
        world.deliver(3)
        self.assertIn((11, 12, ("promise", 1, (1, 2), None)), bodies(world))


class OnTheBag(WorldCase):
    def world(self):
        world = World(*THREE_NODES)
        world.call(0, DEAL, 0)
        world.call(1, DEAL, 1)
        return world

    def test_drop(self):
        world = self.world()
        self.assertIsNone(world.drop(0))
        self.assertEqual(world.bag.numbers(), [1])
        for number in (0, 2, 99):
            self.refuse(NoMessage, world, "drop", number)

    def test_double(self):
        world = self.world()
        self.assertEqual((world.double(1), world.double(0), world.double(2)), (2, 3, 4))
        self.assertEqual([message[1] for message in bodies(world)], [10, 11, 11, 10, 11])
        world.drop(1)
        for number in (1, 5, 99):
            self.refuse(NoMessage, world, "double", number)

    def test_drop_and_double_where_the_link_is_cut(self):
        world = self.world()
        world.cut(0, 10)
        self.assertEqual(world.double(0), 2)
        self.assertIsNone(world.drop(2))
        self.assertEqual(world.bag.numbers(), [0, 1])

    def test_cut_and_heal(self):
        world = self.world()
        for pair in ((0, 10), (10, 0), (12, 12), (20, 3), (3, 3)):
            self.assertIsNone(world.cut(*pair))
        self.assertIsNone(world.cut(0, 10))
        self.assertEqual(world.bag.links(), [(0, 10), (3, 3), (10, 0), (12, 12), (20, 3)])
        self.assertIsNone(world.heal(0, 10))
        self.assertIsNone(world.heal(0, 10))
        self.assertEqual(world.bag.links(), [(3, 3), (10, 0), (12, 12), (20, 3)])

    def test_cut_and_heal_at_endpoints_that_are_none(self):
        world = self.world()
        world.cut(0, 10)
        for word in ("cut", "heal"):
            for endpoint in NOWHERE:
                self.refuse(NoNode, world, word, endpoint, 10)
                self.refuse(NoNode, world, word, 0, endpoint)
                self.refuse(NoNode, world, word, endpoint, endpoint)

    def test_cut_at_a_node_that_is_gone(self):
        world = self.world()
        world.wipe(10)
        world.crash(11, 0)
        world.cut(10, 11)
        self.assertEqual(world.bag.links(), [(10, 11)])


class TickAndSync(WorldCase):
    def test_tick(self):
        world = World(*THREE_NODES)
        self.assertIsNone(world.tick(11))
        self.assertEqual([(station.due, station.node.patience) for station in world.stations.values()],
                         [(4, 6), (4, 7), (6, 10), (4, 6)])
        for _ in range(7):
            world.tick(11)
        self.assertEqual(bodies(world), [(11, 10, ("fetch", 0)), (11, 12, ("fetch", 0))])

    def test_sync(self):
        world = World(*LAZY)
        world.call(0, DEAL, 0)
        world.deliver(0)
        self.assertEqual(bodies(world), [])
        self.assertIsNone(world.sync(10))
        self.assertEqual(bodies(world), [(10, 10, ("ask", 1, (1, 0)))])
        self.assertEqual(world.stations[10].node.journal.synced_frames, 1)

    def test_refusals(self):
        for word in ("tick", "sync"):
            self.refuse_running(World(*THREE_NODES), word)


class CrashAndRestart(WorldCase):
    def lazy_world(self):
        """Its node has a vote that is not synced."""
        world = World(*LAZY)
        world.call(0, DEAL, 0)
        world.deliver(0)
        world.sync(10)
        while world.bag.numbers():
            world.deliver(world.bag.numbers()[0])
            if world.stations[10].node.record.acceptor.accepted is None:
                world.sync(10)
        return world

    def test_what_is_kept(self):
        for count, kept in ((0, False), (10, False), (10 ** 6, True)):
            world = self.lazy_world()
            node = world.stations[10].node
            self.assertIsNotNone(node.record.acceptor.accepted)
            self.assertEqual(world.onlooker.chosen, [])
            self.assertIsNone(world.crash(10, count))
            self.assertEqual(node.state, "down")
            self.assertEqual(node.record.acceptor.accepted is not None, kept)
            # What stays of a crash is synced, and so the vote is seen.
            self.assertEqual(len(world.onlooker.chosen), int(kept))
            self.assertEqual(bodies(world), [])
            self.assertIsNone(world.restart(10))
            self.assertEqual(node.state, "up")
            world.sync(10)
            self.assertEqual(bodies(world), [])

    def test_what_was_not_sent_is_lost(self):
        for word, arguments in (("crash", (0,)), ("wipe", ())):
            world = World(*TWO_CELLS)
            station = world.stations[20]
            station.receive(10, ("end", 1, 0, 0, 1))
            getattr(world, word)(20, *arguments)
            self.assertEqual((bodies(world), station.outgoing()), ([], []))

    def test_the_turn_stays(self):
        world = World(*THREE_NODES)
        for _ in range(7):
            world.tick(12)
        world.crash(12, 0)
        world.restart(12)
        self.assertEqual((world.stations[12].turn, world.stations[12].due), (3, 6))

    def test_refusals_of_a_crash(self):
        for count in (0, 5, 1000000):
            self.refuse_running(World(*THREE_NODES), "crash", count)
        self.refuse_running(World(*THREE_NODES), "crash", 1000001)
        world = World(*THREE_NODES)
        self.refuse(OutOfRange, world, "crash", 10, 1000001)
        self.refuse(OutOfRange, world, "crash", 10, 10 ** 18)
        self.assertIsNone(world.crash(10, 1000000))

    def test_refusals_of_a_restart(self):
        world = World(*THREE_NODES)
        self.refuse(NodeUp, world, "restart", 11)
        self.refuse_standing(world, "restart")
        world.crash(10, 0)
        world.wipe(10)
        self.refuse(NodeGone, world, "restart", 10)


class Wipe(WorldCase):
    def test_from_up_and_down(self):
        world = World(*THREE_NODES)
        world.crash(11, 0)
        for endpoint in (10, 11):
            self.assertIsNone(world.wipe(endpoint))
            self.assertEqual(world.stations[endpoint].node.state, "gone")
        self.assertEqual(world.stations[12].node.state, "up")

    def test_refusals(self):
        self.refuse_standing(World(*THREE_NODES), "wipe")

    def test_votes_that_were_synced_count(self):
        world = World(*ONE_CELL)
        world.call(0, DEAL, 0)
        for _ in range(3):
            world.deliver(world.bag.numbers()[0])
        world.deliver(world.bag.numbers()[0])
        self.assertEqual(len(world.onlooker.chosen), 1)
        world.wipe(10)
        self.assertEqual(len(world.onlooker.chosen), 1)


class Members(WorldCase):
    def test_offered(self):
        world = World(*THREE_NODES)
        self.assertIs(world.members(11, (0, 1, 2)), False)
        self.assertIs(world.members(11, (0, 2)), True)
        self.assertEqual(world.stations[11].node.wanted, (0, 2))
        self.assertEqual(bodies(world), [(11, receiver, ("ask", 1, (1, 1))) for receiver in (10, 11, 12)])
        self.assertIs(world.members(11, (0,)), False)
        world.calm(30)
        self.assertEqual([station.node.members_now for station in world.stations.values()],
                         [(0, 2), (0, 2), (0, 2), (0,)])
        self.assertIs(world.members(10, (0, 2)), False)
        self.assertIs(world.members(10, (1,)), True)

    def test_no_members(self):
        world = World(*THREE_NODES)
        for members in ((), (3,), (0, 3), (1, 0), (0, 0), (0, 1, 2, 3)):
            self.refuse(OutOfRange, world, "members", 10, members)
        self.refuse(OutOfRange, world, "members", 20, (0, 1))
        self.assertIs(world.members(20, (0,)), False)
        wide = World((7,), ((0,),), (("", 1),), False)
        self.refuse(OutOfRange, wide, "members", 10, (0, 1, 2, 3, 4, 5))
        self.refuse(OutOfRange, wide, "members", 10, (7,))
        self.assertIs(wide.members(10, (0, 2, 3, 4, 6)), True)

    def test_refusals(self):
        for members in ((0, 1), (3,)):
            self.refuse_running(World(*THREE_NODES), "members", members)


class Give(WorldCase):
    def test_offered(self):
        world = World(*THREE_NODES)
        self.assertEqual(world.give(10, ("", "c"), 2), 1)
        self.assertEqual(world.stations[10].node.waiting, [("give", 1, "", "c", 2)])
        self.assertEqual(bodies(world), [(10, receiver, ("ask", 1, (1, 0))) for receiver in (10, 11, 12)])
        self.assertEqual(world.give(20, ("c", None), 1), 2)
        self.assertEqual(world.stations[20].node.waiting, [("give", 2, "c", None, 1)])
        self.assertEqual(world.movers, 2)

    def test_bounds(self):
        world = World(*THREE_NODES)
        for mover, bounds in enumerate((("", None), ("", "0"), ("a", "a0"), ("zz", None), ("a", "b"), ("9", "a")), 1):
            self.assertEqual(world.give(11, bounds, 2), mover)
        for bounds in (("", ""), ("b", "b"), ("b", "a"), ("b", ""), ("aa", "a"), ("A", "b"), ("a", "B"), (None, "b"),
                       ("a", "abcdefghi"), ("abcdefghi", None), ("a-", "b"), (5, "b"), ("a", 5), ("", 0), ((), None)):
            self.refuse(OutOfRange, world, "give", 11, bounds, 2)
        for bounds in ((), ("a",), ("a", "b", "c"), "ab", None, ["a", "b"], 5):
            with self.assertRaises(OutOfRange):
                world.give(11, bounds, 2)
        self.assertEqual(world.movers, 6)

    def test_targets(self):
        world = World((1, 1, 1), ((0,), (0,), (0,)), (("", 1),), False)
        for endpoint, own in ((10, 1), (20, 2), (30, 3)):
            for target in (0, own, 4, 5, 100):
                self.refuse(OutOfRange, world, "give", endpoint, ("a", None), target)
            for target in (1, 2, 3):
                if target != own:
                    self.assertIsInstance(world.give(endpoint, ("a", None), target), int)
        self.refuse(OutOfRange, World(*ONE_CELL), "give", 10, ("", None), 2)

    def test_refusals(self):
        for bounds, target in ((("", "c"), 2), (("c", "c"), 2), (("", "c"), 1), (("c", "b"), 9)):
            self.refuse_running(World(*THREE_NODES), "give", bounds, target)

    def test_a_mover_that_is_not_taken_is_free_again(self):
        world = World(*THREE_NODES)
        for number in range(1, 17):
            self.assertEqual(world.give(10, ("", "c"), 2), number)
        before = dump(world)
        self.assertIsNone(world.give(10, ("", "c"), 2))
        self.assertEqual(world.movers, 16)
        self.assertEqual(dump(world), before)
        self.assertIsNone(world.perform(("give", 10, "", "c", 2)))
        self.assertEqual(world.give(20, ("m", None), 1), 17)


class Call(WorldCase):
    def test_begins(self):
        world = World(*THREE_NODES)
        self.assertEqual(world.call(2, WIDE, 7), 1)
        places = (("a", 1), ("z", 2))
        self.assertEqual(bodies(world), [(2, 11, ("request", 1, WIDE, places))])
        self.assertEqual(world.history.rows(), [(2, 1, WIDE, 0, None, None)])
        self.assertEqual((world.clients[2].number, world.clients[2].call.places), (1, places))
        self.assertEqual(world.call(0, puts(("z", 1)), 4), 1)
        self.assertEqual(bodies(world)[1][:2], (0, 20))
        send(world, 12, 2, ("answer", 1, ("busy",)))
        self.assertEqual(world.call(2, DEAL, 0), 2)
        self.assertEqual(bodies(world)[2], (2, 10, ("request", 2, DEAL, (("a", 1),))))
        self.assertEqual(world.history.rows()[0][3:], (0, 2, ("busy",)))
        self.assertEqual(world.history.rows()[2], (2, 2, DEAL, 3, None, None))

    def test_nodes_of_the_home(self):
        for index in range(10):
            world = World(*THREE_NODES)
            world.call(0, DEAL, index)
            self.assertEqual(bodies(world)[0][1], 10 + index % 3)
            world.again(0, index)
            self.assertEqual(bodies(world)[1], bodies(world)[0])

    def test_no_client(self):
        world = World(*THREE_NODES)
        for client in (4, 10, 20, 99):
            self.refuse(NoClient, world, "call", client, DEAL, 0)
            self.refuse(NoClient, world, "call", client, (), 0)
            self.refuse(NoClient, world, "again", client, 0)

    def test_data_that_is_no_deal(self):
        world = World(*THREE_NODES)
        for data in NEVER + [None, 5, "x", ((), ()), ((), (("get", "A"),)), ((), (("get", "a"),) * 7)]:
            self.refuse(NotDeal, world, "call", 1, data, 0)
        world.call(1, DEAL, 0)
        self.refuse(NotDeal, world, "call", 1, ((), ()), 0)

    def test_an_open_call(self):
        world = World(*THREE_NODES)
        world.call(1, DEAL, 0)
        self.refuse(CallOpen, world, "call", 1, DEAL, 0)
        self.refuse(CallOpen, world, "call", 1, WIDE, 1)
        self.assertEqual(world.call(0, DEAL, 0), 1)

    def test_again(self):
        world = World(*THREE_NODES)
        self.refuse(NoCall, world, "again", 1, 0)
        world.call(1, WIDE, 0)
        self.refuse(NoCall, world, "again", 2, 0)
        self.assertIsNone(world.again(1, 5))
        self.assertEqual(bodies(world)[1], (1, 12, ("request", 1, WIDE, (("a", 1), ("z", 2)))))
        send(world, 10, 1, ("answer", 1, ("busy",)))
        self.refuse(NoCall, world, "again", 1, 0)

    def test_a_request_stays_the_same(self):
        world = World(*THREE_NODES)
        world.call(1, WIDE, 0)
        world.clients[1].beliefs = [("", None, 2, 9)]
        world.again(1, 0)
        self.assertEqual(bodies(world)[1], bodies(world)[0])


class EndOfSteps(WorldCase):
    def test_messages_of_a_deal_at_two_cells(self):
        world = World(*TWO_CELLS)
        world.call(3, WIDE, 0)
        told = []
        while world.bag.numbers():
            number = world.bag.numbers()[0]
            sender, receiver, body = world.bag.message(number)
            if sender != receiver:
                told.append((sender, receiver, body[0]))
            world.deliver(number)
        self.assertEqual(told, [(3, 10, "request"), (10, 20, "lock"), (20, 10, "locked"), (10, 3, "answer"),
                                (10, 20, "end"), (20, 10, "ended")])
        self.assertEqual(world.history.rows()[0][5], ("done", (None, None)))

    def test_votes_are_seen(self):
        world = World(*TWO_CELLS)
        world.give(10, ("", "c"), 2)
        for _ in range(20):
            for number in world.bag.numbers():
                world.deliver(number)
        self.assertEqual([cell for cell, _ in world.onlooker.chosen], [1, 2, 1])
        self.assertEqual([command[0] for _, command in world.onlooker.commands()], ["give", "take", "taken"])
        self.assertEqual([tally.row for tally in world.onlooker.tallies],
                         [station.node.record.row for station in world.stations.values()])


if __name__ == "__main__":
    unittest.main()
