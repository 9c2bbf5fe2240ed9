"""Points [44], [45], [52], [54], [55]: syncs, lazy nodes, crashes, restarts, wiped nodes, votes and forks."""

import unittest
from random import Random

from crosskeep.ledger.diary import Diary
from crosskeep.ledger.record import record_of
from crosskeep.packing.packs import unpack
from nodes import FIRST, batch, everything, first_volatile, new_node, node_with, to_all, to_others, updates, volatile

ENTRY = batch("d")


def down_node(row=()):
    node = node_with(list(row))
    node.crash(0)
    return node


class Syncs(unittest.TestCase):
    def test_each_step_of_a_node_that_is_not_lazy_ends_synced(self):
        steps = [
            lambda node: node.offer(("a",)),
            lambda node: node.receive(1, ("ask", 1, (1, 1))),
            lambda node: node.receive(2, ("ask", 1, (2, 2))),
            lambda node: node.receive(2, ("tell", 1, (2, 2), ENTRY)),
            lambda node: node.receive(2, ("chosen", 1, ENTRY)),
            lambda node: node.receive(2, ("give", 2, (ENTRY, ENTRY))),
            lambda node: node.offer_members((0,)),
            lambda node: setattr(node, "patience", 1) or node.tick(),
        ]
        node = new_node()
        for place, step in enumerate(steps):
            before = node.journal.frame_count
            step(node)
            self.assertEqual(node.journal.synced_frames, node.journal.frame_count, place)
            self.assertEqual(node.journal.frame_count > before, place != 1, place)

    def test_a_lazy_node_syncs_when_told(self):
        node = new_node(lazy=True)
        node.offer(("a",))
        self.assertEqual((node.journal.frame_count, node.journal.synced_frames), (1, 0))
        self.assertIsNone(node.sync())
        self.assertEqual((node.journal.frame_count, node.journal.synced_frames), (1, 1))

    def test_messages_wait_for_the_sync(self):
        node = new_node(lazy=True)
        for _ in range(8):
            node.tick()
        self.assertEqual(node.sends(), to_others(("fetch", 0)))
        node.receive(2, ("chosen", 9, ENTRY))
        node.offer(("a",))
        self.assertEqual(node.sends(), [])
        node.receive(2, ("fetch", 5))
        node.receive(2, ("ask", 7, (1, 1)))
        self.assertEqual(node.sends(), [])
        node.sync()
        self.assertEqual(node.sends(),
                         [(2, ("fetch", 0))] + to_all(("ask", 1, (1, 1))) + [(2, ("fetch", 0))])
        self.assertEqual(node.sends(), [])

    def test_letters_wait_for_the_sync(self):
        node = new_node(0, 1, (0,), True)
        node.offer(("a",))
        for body in (("promise", 1, (1, 0), None), ("voted", 1, (1, 0))):
            node.sync()
            node.sends()
            node.receive(0, body)
        self.assertEqual((node.upto, node.letters(), node.sends()), (1, [], []))
        node.sync()
        self.assertEqual((node.letters(), node.letters()), ([(1, ("a",))], []))

    def test_what_a_crash_loses_is_never_sent(self):
        node = new_node(lazy=True)
        node.offer(("a",))
        node.receive(2, ("tell", 1, (2, 2), ENTRY))
        node.crash(1000)
        node.restart()
        node.sync()
        self.assertEqual((node.sends(), node.letters()), ([], []))

    def test_votes_wait_for_the_sync(self):
        node = new_node(lazy=True)
        node.receive(2, ("tell", 1, (2, 2), ENTRY))
        self.assertEqual(node.new_votes(), [])
        node.sync()
        node.receive(0, ("tell", 1, (3, 0), batch("e")))
        self.assertEqual(node.new_votes(), [(1, (2, 2), ENTRY)])
        self.assertEqual(node.new_votes(), [])
        node.sync()
        self.assertEqual(node.new_votes(), [(1, (3, 0), batch("e"))])


class Crashes(unittest.TestCase):
    def test_what_is_left_of_a_node_that_is_down(self):
        node = node_with([batch("a"), batch("b")])
        node.offer(("c",))
        node.offer_members((0,))
        node.receive(0, ("refuse", 3, (5, 1), (4, 0)))
        node.receive(0, ("tell", 3, (4, 0), ENTRY))
        kept = everything(node)
        self.assertIsNone(node.crash(0))
        self.assertEqual(everything(node), {**kept, **first_volatile(1), "state": "down"})
        self.assertEqual(node.record.acceptor.accepted, ((4, 0), ENTRY))
        self.assertEqual((node.sends(), node.letters(), len(node.new_votes())), ([], [], 1))

    def test_restart(self):
        node = node_with([batch("a"), batch("b", "a"), ("members", (0, 1))])
        node.receive(0, ("ask", 4, (4, 0)))
        kept = everything(node)
        node.crash(0)
        self.assertIsNone(node.restart())
        self.assertEqual(everything(node), {**kept, **first_volatile(1), "lines": [("a",), ("b",)]})
        self.assertEqual((node.sends(), node.letters()), ([], []))
        self.assertEqual(node.members_now, (0, 1))

    def test_at_every_octet(self):
        steps = [("tell", 1, (1, 0), ENTRY), ("chosen", 1, ENTRY), ("ask", 2, (3, 2)), ("tell", 2, (3, 2), batch("e")),
                 ("give", 2, (batch("e"), batch("f")))]
        plain = new_node(lazy=True)
        for body in steps:
            plain.receive(2, body)
        payloads = plain.journal.payloads()
        ends = [sum(len(payload) + 6 for payload in payloads[:count]) for count in range(len(payloads) + 1)]
        for synced in range(len(steps) + 1):
            for count in range(ends[-1] + 2):
                node = new_node(lazy=True)
                for place, body in enumerate(steps):
                    if place == synced:
                        node.sync()
                    node.receive(2, body)
                start = node.journal.synced_octets
                row, upto = len(record_of(payloads[:node.journal.synced_frames]).row), node.upto
                node.crash(count)
                whole = len([end for end in ends if end <= start + count]) - 1
                record = record_of(payloads[:whole])
                self.assertEqual(node.journal.payloads(), payloads[:whole], (synced, count))
                self.assertEqual(node.journal.synced_frames, whole)
                self.assertEqual(node.record.row, record.row)
                self.assertEqual(node.record.acceptor.promised, record.acceptor.promised)
                self.assertEqual(node.record.acceptor.accepted, record.acceptor.accepted)
                self.assertTrue(row <= node.upto <= upto)
                accepts = [update[1:] for update in map(unpack, payloads[:whole]) if update[0] == "accept"]
                self.assertEqual(node.new_votes(), accepts)
                node.restart()
                self.assertEqual(node.new_votes(), [])
                self.assertEqual(node.machine.lines, [entry[1][0] for entry in record.row])

    def test_votes_are_told_once(self):
        node = new_node(lazy=True)
        node.receive(2, ("tell", 1, (1, 2), ENTRY))
        node.sync()
        self.assertEqual(len(node.new_votes()), 1)
        node.receive(2, ("tell", 1, (2, 2), ENTRY))
        node.crash(0)
        self.assertEqual(node.new_votes(), [])
        node.restart()
        node.receive(2, ("tell", 1, (3, 2), ENTRY))
        self.assertEqual(node.new_votes(), [])
        node.crash(1000)
        node.restart()
        self.assertEqual(node.new_votes(), [(1, (3, 2), ENTRY)])
        node.receive(2, ("tell", 1, (3, 2), ENTRY))
        node.receive(2, ("tell", 1, (4, 2), ENTRY))
        node.sync()
        self.assertEqual(node.new_votes(), [(1, (4, 2), ENTRY)])

    def test_a_vote_that_was_cut_off_leaves_its_place_to_others(self):
        node = new_node(lazy=True)
        node.receive(2, ("tell", 1, (1, 2), ENTRY))
        node.crash(5)
        node.restart()
        node.receive(2, ("ask", 1, (2, 2)))
        node.sync()
        self.assertEqual(node.new_votes(), [])

    def test_goes_on_behind_a_restart(self):
        node = new_node()
        node.offer(("a",))
        node.crash(0)
        node.restart()
        self.assertIs(node.offer(("b",)), True)
        self.assertEqual(node.sends(), to_all(("ask", 1, (2, 1))))
        self.assertEqual(node.attempt.ballot, (2, 1))
        self.assertEqual(updates(node), [("promise", 1, (1, 1)), ("promise", 1, (2, 1))])


class DeepCommands(unittest.TestCase):
    """Points [22], [41], [42] and [45]: commands as deep as packable data may be come back behind a crash."""

    def command(self, depth):
        command = ("x", -(10 ** 18))
        for _ in range(depth - 1):
            command = (command,)
        return command

    def node_that_accepted(self, command, lazy):
        node = new_node(0, 1, (0,), lazy)
        self.assertIs(node.offer(command), True)
        node.receive(0, ("promise", 1, (1, 0), None))
        node.receive(0, ("tell", 1, (1, 0), ("batch", (command,))))
        return node

    def test_rows(self):
        for depth in (1, 36, 37, 38, 39, 40, 41):
            for lazy in (False, True):
                command = self.command(depth)
                node = self.node_that_accepted(command, lazy)
                node.receive(0, ("voted", 1, (1, 0)))
                node.crash(10 ** 6)
                self.assertEqual((node.state, node.record.row), ("down", [("batch", (command,))]), depth)
                node.restart()
                self.assertEqual((node.record.row, node.machine.lines), ([("batch", (command,))], [command]), depth)

    def test_what_was_accepted(self):
        for depth in (1, 36, 37, 38, 39, 40, 41):
            node = self.node_that_accepted(self.command(depth), False)
            node.crash(0)
            accepted = ((1, 0), ("batch", (self.command(depth),)))
            for _ in range(2):
                self.assertEqual((node.record.row, node.record.acceptor.accepted), ([], accepted), depth)
                node.restart()


class Wiped(unittest.TestCase):
    def check_gone(self, node):
        self.assertEqual(everything(node), {
            **first_volatile(1), "state": "gone", "image": [], "synced": 0, "row": [], "upto": 0,
            "acceptor": ((0, 0), None), "members": FIRST, "made": (1, 3, FIRST, node.lazy),
        })
        self.assertEqual((node.sends(), node.letters()), ([], []))

    def test_from_up_and_from_down(self):
        for lazy in (False, True):
            for down in (False, True):
                node = node_with([batch("a"), ("members", (0, 1))], lazy=lazy)
                node.offer(("c",))
                node.receive(0, ("ask", 3, (4, 0)))
                if down:
                    node.crash(0)
                self.assertIsNone(node.wipe())
                self.check_gone(node)

    def test_votes_that_were_synced_are_still_told(self):
        node = new_node(lazy=True)
        node.receive(2, ("tell", 1, (1, 2), ENTRY))
        node.receive(2, ("tell", 1, (2, 2), ENTRY))
        node.sync()
        node.receive(2, ("tell", 1, (3, 2), ENTRY))
        node.wipe()
        self.check_gone(node)
        self.assertEqual(node.new_votes(), [(1, (1, 2), ENTRY), (1, (2, 2), ENTRY)])
        self.assertEqual(node.new_votes(), [])

    def test_votes_that_were_told_are_not_told_again(self):
        node = new_node()
        node.receive(2, ("tell", 1, (1, 2), ENTRY))
        node.new_votes()
        node.wipe()
        self.assertEqual(node.new_votes(), [])

    def test_votes_of_a_crash_ahead_of_it(self):
        node = new_node(lazy=True)
        node.receive(2, ("tell", 1, (1, 2), ENTRY))
        node.receive(2, ("tell", 1, (2, 2), ENTRY))
        node.crash(node.journal.octet_count - 1)
        node.wipe()
        self.assertEqual(node.new_votes(), [(1, (1, 2), ENTRY)])


class Backwards(Diary):
    """A maker of machines that can be told from the plain one."""


class Forks(unittest.TestCase):
    bodies = [
        ("ask", 1, (1, 2)), ("promise", 1, (1, 1), None), ("tell", 1, (2, 2), ENTRY), ("voted", 1, (1, 1)),
        ("refuse", 1, (1, 1), (2, 2)), ("chosen", 1, ENTRY), ("fetch", 0), ("give", 2, (batch("e"), batch("f"))),
    ]

    def some_node(self, random):
        node = new_node(random.choice((0, 1)), lazy=random.random() < 0.6)
        for _ in range(random.randrange(14)):
            word = random.choice(("receive", "receive", "offer", "members", "tick", "sync"))
            if word == "receive":
                body = random.choice(self.bodies)
                slot = random.choice((body[1], node.upto + 1)) if body[0] != "give" else body[1]
                node.receive(random.choice((0, 1, 2)), (body[0], slot) + body[2:])
            elif word == "offer":
                node.offer(("o", random.randrange(9)))
            elif word == "members":
                node.offer_members((0, 1))
            elif word == "tick":
                node.tick()
            else:
                node.sync()
        if random.random() < 0.3:
            node.crash(random.randrange(40))
        if random.random() < 0.1:
            node.wipe()
        return node

    def told(self, node):
        state = everything(node)
        if node.state == "up":
            node.sync()
        return (state, node.sends(), node.letters(), node.new_votes(), node.journal.synced_frames)

    def test_alike_and_apart(self):
        states = []
        for seed in range(600):
            node = self.some_node(Random(seed))
            wanted = self.told(self.some_node(Random(seed)))
            twin = node.fork(Backwards)
            self.assertIsInstance(twin.machine, Backwards)
            self.assertEqual(everything(twin), everything(node))
            third = twin.fork(Diary)
            self.change(twin)
            self.assertEqual(self.told(node), wanted)
            self.change(node.fork(Backwards))
            self.assertEqual(self.told(third), wanted)
            states.append(node.state)
        self.assertEqual(sorted(set(states)), ["down", "gone", "up"])

    def test_letters_that_wait(self):
        node = new_node(0, 1, (0,), True)
        node.offer(("a",))
        node.receive(0, ("promise", 1, (1, 0), None))
        node.receive(0, ("voted", 1, (1, 0)))
        twin = node.fork(Diary)
        twin.offer(("b",))
        twin.receive(0, ("promise", 2, (1, 0), None))
        twin.receive(0, ("voted", 2, (1, 0)))
        node.sync()
        twin.sync()
        self.assertEqual(node.letters(), [(1, ("a",))])
        self.assertEqual(twin.letters(), [(1, ("a",)), (2, ("b",))])

    def change(self, node):
        if node.state == "up":
            node.offer(("new",))
            if node.attempt is not None:
                node.receive(2, ("promise", node.upto + 1, node.attempt.ballot, None))
            node.receive(2, ("tell", node.upto + 1, (9, 2), batch("z")))
            node.receive(2, ("chosen", node.upto + 1, batch("z")))
            node.waiting.append(("w",))
            self.told(node)
            node.crash(0)
        node.new_votes()
        if node.state == "down":
            node.restart()
            self.assertIsInstance(node.machine, Backwards)
            node.offer_members((2,))

    def test_votes_of_a_fork_are_its_own(self):
        node = new_node()
        twin = node.fork(Diary)
        twin.receive(2, ("tell", 1, (2, 2), ENTRY))
        node.receive(2, ("ask", 1, (3, 2)))
        node.receive(2, ("ask", 1, (4, 2)))
        self.assertEqual((node.new_votes(), twin.new_votes()), ([], [(1, (2, 2), ENTRY)]))

    def test_a_fork_of_a_node_that_is_down(self):
        node = down_node([batch("a")])
        twin = node.fork(Backwards)
        self.assertEqual((twin.state, twin.machine.lines), ("down", []))
        twin.restart()
        self.assertEqual((twin.machine.lines, node.machine.lines, node.state), ([("a",)], [], "down"))
        self.assertIsInstance(twin.machine, Backwards)

    def test_lists_that_are_returned_are_new(self):
        node = new_node()
        node.offer(("a",))
        node.receive(2, ("tell", 1, (2, 2), ENTRY))
        twin = node.fork(Diary)
        node.sends().clear()
        node.new_votes().clear()
        node.letters().append("x")
        self.assertEqual((node.sends(), node.letters(), node.new_votes()), ([], [], []))
        self.assertEqual((len(twin.sends()), len(twin.new_votes())), (4, 1))
        again = twin.sends()
        again.append((0, ("fetch", 0)))
        self.assertEqual(twin.sends(), [])


if __name__ == "__main__":
    unittest.main()
