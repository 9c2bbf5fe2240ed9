"""Points [82] to [86]: stations."""

import unittest

from crosskeep.keeper.keeper import Keeper
from crosskeep.ledger.node import Node
from crosskeep.world.plan import Plan
from crosskeep.world.station import Station
from keepers import RANGES, deal_of, dump, lock_of, puts

SIZES = (1, 3, 2)
MEMBERS = ((0,), (0, 1, 2), (1,))
PLAN = Plan(SIZES, MEMBERS, RANGES, False)
LAZY = Plan(SIZES, MEMBERS, RANGES, True)

BUSY = ("busy",)
DONE = ("done", (None,))


def request(deal_command):
    """The message of a client behind which stands this command, with its client."""
    return deal_command[1], ("request",) + deal_command[2:]


def work(station):
    """Let a station that is its whole cell do what waits; return what it sent to others."""
    told = []
    while True:
        station.node.sync()
        messages = station.outgoing()
        if not messages:
            return told
        for receiver, body in messages:
            if receiver == station.endpoint:
                station.receive(receiver, body)
            else:
                told.append((receiver, body))


def station_with(*commands, plan=PLAN):
    """The station that is the whole first cell, behind these commands, which it was not asked for by messages."""
    station = Station(1, 0, plan)
    for command in commands:
        assert station.node.offer(command), command
        work(station)
    return station


class StationCase(unittest.TestCase):
    def says(self, station, sender, body, *messages):
        """The message changes nothing but that these messages are sent."""
        before = dump((station.node.waiting, station.node.machine, station.node.record, station.node.attempt))
        station.receive(sender, body)
        self.assertEqual(station.outgoing(), list(messages))
        self.assertEqual(
            dump((station.node.waiting, station.node.machine, station.node.record, station.node.attempt)), before)

    def offers(self, station, sender, body, command):
        """The message says nothing, but makes the command wait, once."""
        self.assertEqual(station.node.waiting, [])
        for _ in range(2):
            station.receive(sender, body)
            self.assertEqual(station.node.waiting, [command])
            own = [told for receiver, told in station.outgoing() if receiver != station.endpoint]
            self.assertEqual(own, [])


class New(unittest.TestCase):
    def test_fields(self):
        for cell, size in enumerate(SIZES, 1):
            for index in range(size):
                station = Station(cell, index, PLAN)
                self.assertEqual((station.cell, station.plan, station.turn, station.due),
                                 (cell, PLAN, index, 4 + index))
                self.assertEqual(station.endpoint, 10 * cell + index)
                self.assertEqual(station.outgoing(), [])
                node = station.node
                self.assertIsInstance(node, Node)
                self.assertEqual((node.index, node.size, node.first_members, node.lazy, node.state),
                                 (index, size, MEMBERS[cell - 1], False, "up"))
                self.assertEqual(dump(node.machine), dump(Keeper(cell, RANGES)))

    def test_lazy(self):
        self.assertIs(Station(2, 1, LAZY).node.lazy, True)


class Requests(StationCase):
    def test_new(self):
        command = deal_of(2, 1, puts(("a", 1)))
        self.offers(Station(1, 0, PLAN), *request(command), command)

    def test_answered(self):
        command = deal_of(2, 1, puts(("a", 1)))
        station = station_with(command)
        self.says(station, *request(command), (2, ("answer", 1, DONE)))
        moved = deal_of(2, 2, puts(("h", 1)), h=1)
        station = station_with(command, moved)
        answer = ("moved", (("h", "p", 2, 1),))
        self.says(station, *request(moved), (2, ("answer", 2, answer)))

    def test_older_than_the_session(self):
        first, second = deal_of(2, 1, puts(("a", 1))), deal_of(2, 2, puts(("b", 1)))
        self.says(station_with(first, second), *request(first))

    def test_not_answered_yet(self):
        command = deal_of(2, 1, puts(("a", 1), ("h", 2)))
        self.says(station_with(command), *request(command))

    def test_of_another_client(self):
        command = deal_of(2, 1, puts(("a", 1)))
        other = deal_of(3, 1, puts(("a", 1)))
        self.offers(station_with(command), *request(other), other)


class Locks(StationCase):
    deal = puts(("a", 1), ("h", 2))
    lock = lock_of(2, 3, 5, deal, 1)
    tried = ("tried", (1, (), ((0, None),), (("a", 1),)))

    def test_new(self):
        for sender in (20, 21, 22):
            self.offers(Station(1, 0, PLAN), sender, self.lock, self.lock)

    def test_with_a_hold(self):
        station = station_with(self.lock)
        for sender in (20, 22):
            self.says(station, sender, self.lock, (sender, ("locked", 3, 5, 1, self.tried)))

    def test_refused(self):
        station = station_with(lock_of(2, 2, 7, self.deal, 1), self.lock)
        self.says(station, 21, self.lock, (21, ("locked", 3, 5, 1, BUSY)))
        far = ("lock", 2, 1, 1, ((), ((0, ("get", "h")),)))
        station = station_with(far)
        self.says(station, 20, far, (20, ("locked", 1, 1, 1, ("moved", (("h", "p", 2, 1),)))))

    def test_ended(self):
        station = station_with(self.lock, ("end", 2, 3, 5, 1))
        self.says(station, 20, self.lock)
        self.says(station, 20, lock_of(2, 3, 4, self.deal, 1))
        later = lock_of(2, 3, 6, self.deal, 1)
        self.offers(station, 20, later, later)


class Ends(StationCase):
    end = ("end", 2, 3, 5, 1)

    def test_of_a_hold(self):
        self.offers(station_with(Locks.lock), 21, self.end, self.end)

    def test_of_what_never_came(self):
        self.offers(Station(1, 0, PLAN), 21, self.end, self.end)

    def test_settled(self):
        station = station_with(Locks.lock, self.end)
        for sender in (20, 21):
            self.says(station, sender, self.end, (sender, ("ended", 3, 5, 1)))
        self.says(station, 22, ("end", 2, 3, 4, 0), (22, ("ended", 3, 4, 1)))


class Takes(StationCase):
    take = ("take", 3, 9, (("p", "q", 2, (("p", 7),)),))

    def test_new(self):
        self.offers(Station(1, 0, PLAN), 31, self.take, self.take)

    def test_settled(self):
        station = station_with(self.take)
        for sender in (30, 31):
            self.says(station, sender, self.take, (sender, ("taken", 9)))


class Answers(StationCase):
    def test_locked(self):
        locked = ("locked", 2, 1, 2, BUSY)
        station = station_with(deal_of(2, 1, puts(("a", 1), ("h", 2))))
        self.offers(station, 20, locked, locked)
        work(station)
        self.says(station, 20, locked)
        self.says(Station(1, 0, PLAN), 20, locked)

    def test_ended(self):
        told = ("locked", 2, 1, 2, Locks.tried[:1] + ((1, (), ((1, None),), (("h", 2),)),))
        ended = ("ended", 2, 1, 2)
        station = station_with(deal_of(2, 1, puts(("a", 1), ("h", 2))), told)
        self.offers(station, 21, ended, ended)
        work(station)
        self.says(station, 21, ended)
        self.says(Station(1, 0, PLAN), 21, ended)

    def test_taken(self):
        station = station_with(("give", 4, "", "c", 2))
        self.offers(station, 20, ("taken", 4), ("taken", 4))
        work(station)
        self.says(station, 20, ("taken", 4))
        self.says(station, 20, ("taken", 5))
        self.says(Station(1, 0, PLAN), 20, ("taken", 4))


class OwnCell(unittest.TestCase):
    def test_messages_of_nodes_are_those_of_the_node(self):
        entry = ("batch", (deal_of(0, 1, puts(("h", 1))),))
        for body in (
            ("ask", 1, (3, 2)), ("tell", 1, (3, 2), entry), ("chosen", 1, entry), ("give", 1, (entry, entry)),
            ("fetch", 0), ("ask", 5, (3, 2)), ("refuse", 1, (1, 1), (7, 0)), ("promise", 1, (1, 1), None),
            ("voted", 1, (1, 1)),
        ):
            for sender in (20, 21, 22):
                station = Station(2, 1, PLAN)
                node = Node(1, 3, (0, 1, 2), lambda: Keeper(2, RANGES), False)
                for told in (station.node, node):
                    told.offer(("taken", 9))
                    told.offer(entry[1][0])
                    told.sends()
                station.receive(sender, body)
                node.receive(sender - 20, body)
                sent = node.sends()
                self.assertEqual(dump(station.node.record), dump(node.record), body)
                self.assertEqual(dump(station.node.attempt), dump(node.attempt), body)
                self.assertEqual(
                    (station.node.waiting, station.node.patience, station.node.guest, station.node.seen),
                    (node.waiting, node.patience, node.guest, node.seen), body)
                self.assertEqual(station.outgoing(), [(20 + index, told) for index, told in sent])


class Letters(unittest.TestCase):
    def test_to_clients_and_to_the_cells_by_the_turn(self):
        deal = puts(("a", 1), ("h", 2), ("p", 3))
        for turn in range(8):
            station = Station(1, 0, PLAN)
            station.turn = turn
            station.node.offer(deal_of(3, 1, deal))
            self.assertEqual(work(station), [
                (20 + turn % 3, lock_of(1, 3, 1, deal, 2)), (30 + turn % 2, lock_of(1, 3, 1, deal, 3))])
            station.node.offer(deal_of(2, 1, puts(("b", 1))))
            self.assertEqual(work(station), [(2, ("answer", 1, DONE))])

    def test_the_first_turn_is_the_index(self):
        for index in range(3):
            station = Station(2, index, PLAN)
            for slot, command in enumerate((("give", 1, "h", "i", 3), ("give", 2, "j", "k", 1)), 1):
                station.node.offer(command)
                ballot = station.node.attempt.ballot
                for sender in (20, 21):
                    station.receive(sender, ("promise", slot, ballot, None))
                for sender in (20, 21):
                    station.outgoing()
                    station.receive(sender, ("voted", slot, ballot))
                letters = [message for message in station.outgoing() if message[0] // 10 != 2]
                self.assertEqual([receiver for receiver, _ in letters], [30 + index % 2] if slot == 1 else [10])


class Ticks(unittest.TestCase):
    def test_due_and_turn(self):
        for cell, index in ((1, 0), (2, 2), (3, 1)):
            station = Station(cell, index, PLAN)
            seen = []
            for _ in range(3 * (4 + index) + 1):
                seen.append((station.due, station.turn))
                self.assertIsNone(station.tick())
            self.assertEqual(seen, [
                (due, index + row) for row in range(3) for due in range(4 + index, 0, -1)] + [(4 + index, index + 3)])

    def test_the_node_ticks(self):
        station = Station(2, 2, PLAN)
        for left in range(9, 0, -1):
            station.tick()
            self.assertEqual((station.node.patience, station.outgoing()), (left, []))
        station.tick()
        self.assertEqual(station.outgoing(), [(20, ("fetch", 0)), (21, ("fetch", 0))])

    def test_orders_when_due(self):
        deal = puts(("a", 1), ("h", 2), ("p", 3))
        station = station_with(deal_of(3, 1, deal), ("give", 7, "d", "e", 2))
        orders = [body for _, _, body in station.node.machine.orders()]
        self.assertEqual(len(orders), 3)
        for turn in range(5):
            for _ in range(3):
                station.tick()
                self.assertEqual([told for told in station.outgoing() if told[1][0] != "fetch"], [])
            station.tick()
            # The letters go by the turn that was, which becomes greater behind that.
            self.assertEqual([told for told in station.outgoing() if told[1][0] != "fetch"], [
                (20 + turn % 3, orders[0]), (30 + turn % 2, orders[1]), (20 + turn % 3, orders[2])])
            self.assertEqual((station.turn, station.due), (turn + 1, 4))

    def test_what_the_node_sends_comes_first(self):
        station = station_with(("give", 7, "d", "e", 2))
        for _ in range(3):
            station.tick()
        station.outgoing()
        # It is asked for a vote and has its orders to send in the same step, and a letter that waited.
        station.node.patience = 1
        station.node.waiting.append(deal_of(0, 1, puts(("a", 1))))
        station.tick()
        told = station.outgoing()
        self.assertEqual([receiver for receiver, _ in told], [10, 20])
        self.assertEqual([body[0] for _, body in told], ["ask", "take"])

    def test_sends_then_letters_then_what_it_says_itself(self):
        station = station_with(Locks.lock, Ends.end, plan=LAZY)
        station.node.offer(deal_of(2, 1, puts(("a", 1))))
        for body in (("promise", 3, (1, 0), None), ("voted", 3, (1, 0))):
            station.node.sync()
            station.outgoing()
            station.receive(10, body)
        station.receive(20, Ends.end)
        station.receive(10, ("fetch", 2))
        station.node.sync()
        self.assertEqual([(receiver, body[0]) for receiver, body in station.outgoing()],
                         [(10, "give"), (2, "answer"), (20, "ended")])
        self.assertEqual(station.outgoing(), [])

    def test_what_it_says_itself_does_not_wait_for_a_sync(self):
        station = station_with(Locks.lock, Ends.end, plan=LAZY)
        station.node.offer(deal_of(2, 1, puts(("a", 1))))
        station.receive(20, Ends.end)
        self.assertEqual(station.outgoing(), [(20, ("ended", 3, 5, 1))])
        station.node.sync()
        self.assertEqual(station.outgoing(), [(10, ("ask", 3, (1, 0)))])


class LazyStations(unittest.TestCase):
    def test_messages_and_letters_wait_for_a_sync(self):
        station = Station(1, 0, LAZY)
        command = deal_of(2, 1, puts(("a", 1)))
        station.receive(*request(command))
        self.assertEqual(station.outgoing(), [])
        station.node.sync()
        self.assertEqual(station.outgoing(), [(10, ("ask", 1, (1, 0)))])
        self.assertEqual(station.outgoing(), [])
        for body in (("ask", 1, (1, 0)), ("promise", 1, (1, 0), None), ("tell", 1, (1, 0), ("batch", (command,)))):
            station.receive(10, body)
        self.assertEqual(station.outgoing(), [])
        station.node.sync()
        self.assertEqual([told[1][0] for told in station.outgoing()], ["promise", "tell", "voted"])
        station.receive(10, ("voted", 1, (1, 0)))
        self.assertEqual((station.node.upto, station.outgoing()), (1, []))
        station.node.sync()
        self.assertEqual(station.outgoing(), [(2, ("answer", 1, DONE))])

    def test_the_turn_at_which_letters_go_out(self):
        station = Station(1, 0, LAZY)
        station.node.offer(("give", 7, "d", "e", 2))
        for body in (("promise", 1, (1, 0), None), ("voted", 1, (1, 0))):
            station.node.sync()
            station.outgoing()
            station.receive(10, body)
        station.turn = 5
        station.node.sync()
        self.assertEqual([receiver for receiver, _ in station.outgoing()], [22])


class Lost(unittest.TestCase):
    def test_forget(self):
        station = station_with(("give", 7, "d", "e", 2))
        for _ in range(4):
            station.tick()
        self.assertIsNone(station.forget())
        self.assertEqual(station.outgoing(), [])
        for _ in range(4):
            station.tick()
        self.assertEqual([body[0] for _, body in station.outgoing()], ["take"])

    def test_restart(self):
        for index in (0, 2):
            station = Station(2, index, PLAN)
            for _ in range(4 + index + 2):
                station.tick()
            self.assertEqual((station.turn, station.due), (index + 1, 2 + index))
            station.node.crash(0)
            self.assertEqual((station.turn, station.due), (index + 1, 2 + index))
            self.assertIsNone(station.restart())
            self.assertEqual((station.turn, station.due, station.node.state), (index + 1, 4 + index, "up"))

    def test_restart_of_the_keeper(self):
        station = station_with(deal_of(0, 1, puts(("a", 1))))
        station.node.crash(0)
        self.assertEqual(station.node.machine.key_rows(), [])
        station.restart()
        self.assertEqual(station.node.machine.key_rows(), [("a", 1)])


class Apart(unittest.TestCase):
    def test_lists_that_are_returned_are_new(self):
        station = station_with(deal_of(2, 1, puts(("a", 1))))
        for _ in range(2):
            station.receive(*request(deal_of(2, 1, puts(("a", 1)))))
            told = station.outgoing()
            self.assertEqual(told, [(2, ("answer", 1, DONE))])
            told.append("x")
        self.assertEqual(station.outgoing(), [])


if __name__ == "__main__":
    unittest.main()
