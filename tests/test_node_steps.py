"""Points [43], [46] to [48]: what a node has at first, what it is offered, how it begins, and its ticks."""

import unittest

from nodes import FIRST, batch, everything, first_volatile, new_node, node_with, to_all, to_others, updates, volatile


class AtFirst(unittest.TestCase):
    def test_all_fields(self):
        for index in range(7):
            node = new_node(index, 7, (1, 3), index > 3)
            self.assertEqual(everything(node), {
                **first_volatile(index), "state": "up", "image": [], "synced": 0, "row": [], "upto": 0,
                "acceptor": ((0, 0), None), "members": (1, 3), "made": (index, 7, (1, 3), index > 3),
            })
            self.assertEqual((node.sends(), node.letters(), node.new_votes()), ([], [], []))

    def test_members_now(self):
        node = node_with([batch("a"), ("members", (0, 1)), batch("b")])
        self.assertEqual((node.upto, node.members_now), (3, (0, 1)))
        node.receive(0, ("chosen", 4, ("members", (2,))))
        self.assertEqual((node.upto, node.members_now), (4, (2,)))


class Offered(unittest.TestCase):
    def test_a_command_begins_an_attempt(self):
        node = new_node()
        node.patience = 3
        self.assertIs(node.offer(("a",)), True)
        self.assertEqual(volatile(node), {
            **first_volatile(1), "waiting": [("a",)],
            "attempt": ((1, 1), batch("a"), FIRST, "asking", (), (), None),
        })
        self.assertEqual(updates(node), [("promise", 1, (1, 1))])
        self.assertEqual(node.record.acceptor.promised, (1, 1))
        self.assertEqual(node.journal.synced_frames, 1)
        self.assertEqual(node.sends(), to_all(("ask", 1, (1, 1))))
        self.assertEqual(node.sends(), [])

    def test_a_command_beside_an_attempt_waits(self):
        node = new_node()
        node.offer(("a",))
        node.sends()
        self.assertIs(node.offer(("b",)), True)
        self.assertEqual(node.waiting, [("a",), ("b",)])
        self.assertEqual(node.attempt.entry, batch("a"))
        self.assertEqual((node.sends(), len(updates(node))), ([], 1))

    def test_a_command_of_a_guest_waits(self):
        node = new_node()
        node.receive(0, ("ask", 1, (1, 0)))
        node.sends()
        self.assertIs(node.offer(("a",)), True)
        self.assertEqual((node.waiting, node.attempt, node.sends()), ([("a",)], None, []))

    def test_a_settled_command_is_not_taken(self):
        node = node_with([batch("a", "b")])
        before = everything(node)
        self.assertIs(node.offer(("b",)), False)
        self.assertEqual((everything(node), node.sends()), (before, []))

    def test_a_command_that_waits_is_not_taken(self):
        node = new_node()
        node.offer(("a",))
        node.sends()
        before = everything(node)
        self.assertIs(node.offer(("a",)), False)
        self.assertEqual((everything(node), node.sends()), (before, []))

    def test_sixteen_commands_wait_at_most(self):
        node = new_node()
        for number in range(16):
            self.assertIs(node.offer(("c", number)), True, number)
        before = everything(node)
        self.assertIs(node.offer(("c", 16)), False)
        self.assertIs(node.offer(("c", 3)), False)
        self.assertEqual(everything(node), before)
        self.assertEqual(node.waiting, [("c", number) for number in range(16)])

    def test_members(self):
        node = new_node()
        self.assertIs(node.offer_members((0, 1)), True)
        self.assertEqual(node.wanted, (0, 1))
        self.assertEqual(node.attempt.entry, ("members", (0, 1)))
        self.assertEqual(node.attempt.members, FIRST)
        self.assertEqual(node.sends(), to_all(("ask", 1, (1, 1))))

    def test_members_that_are_those_of_the_next_slot(self):
        node = node_with([batch("a"), ("members", (0, 1))])
        before = everything(node)
        self.assertIs(node.offer_members((0, 1)), False)
        self.assertEqual(everything(node), before)
        self.assertIs(node.offer_members(FIRST), True)

    def test_members_beside_members(self):
        node = new_node()
        node.offer_members((0, 1))
        before = everything(node)
        self.assertIs(node.offer_members((0, 1)), False)
        self.assertIs(node.offer_members((2,)), False)
        self.assertEqual(everything(node), before)

    def test_members_beside_an_attempt_wait(self):
        node = new_node()
        node.offer(("a",))
        node.sends()
        self.assertIs(node.offer_members((0, 1)), True)
        self.assertEqual((node.attempt.entry, node.wanted, node.sends()), (batch("a"), (0, 1), []))

    def test_members_of_a_guest_wait(self):
        node = new_node()
        node.receive(0, ("ask", 1, (1, 0)))
        node.sends()
        self.assertIs(node.offer_members((0, 1)), True)
        self.assertEqual((node.attempt, node.wanted, node.sends()), (None, (0, 1), []))

    def test_wanted_members_come_ahead_of_commands(self):
        node = new_node()
        node.offer(("a",))
        node.offer_members((0, 1))
        node.patience = 1
        node.tick()
        self.assertEqual(node.attempt.entry, ("members", (0, 1)))


class Begins(unittest.TestCase):
    def test_eight_commands_at_most(self):
        for count in (7, 8, 9, 16):
            node = new_node()
            node.receive(0, ("ask", 1, (1, 0)))
            for number in range(count):
                node.offer(("c", number))
            node.patience = 1
            node.tick()
            self.assertEqual(node.attempt.entry, ("batch", tuple(("c", number) for number in range(min(8, count)))))
            self.assertEqual(len(node.waiting), count)

    def test_behind_the_greater_of_seen_and_promised(self):
        for seen, promised, ballot in (((4, 0), (1, 0), (5, 1)), ((2, 2), (7, 2), (8, 1)), ((3, 0), (3, 0), (4, 1))):
            node = new_node()
            node.receive(0, ("ask", 1, promised))
            node.receive(0, ("refuse", 1, (1, 1), seen))
            node.offer(("a",))
            node.sends()
            node.patience = 1
            node.tick()
            self.assertEqual(node.attempt.ballot, ballot)
            self.assertEqual(updates(node)[-1], ("promise", 1, ballot))
            self.assertEqual(node.sends(), to_all(("ask", 1, ballot)))
            self.assertEqual((node.guest, node.patience), (False, 8))

    def test_the_last_round(self):
        node = new_node()
        node.receive(0, ("ask", 1, (9998, 0)))
        node.offer(("a",))
        node.patience = 1
        node.tick()
        self.assertEqual(node.attempt.ballot, (9999, 1))

    def test_no_ballot_behind_the_last_round(self):
        for told in (("ask", 1, (9999, 0)), ("refuse", 1, (1, 1), (9999, 0))):
            node = new_node()
            node.receive(0, told)
            node.guest = False
            node.sends()
            frames = node.journal.frame_count
            patience = node.patience = 5
            self.assertIs(node.offer(("a",)), True)
            self.assertIs(node.offer_members((0,)), True)
            self.assertEqual((node.attempt, node.sends(), node.patience), (None, [], patience))
            self.assertEqual(node.journal.frame_count, frames)

    def test_members_of_the_slot(self):
        node = node_with([("members", (1,))])
        node.offer(("a",))
        self.assertEqual(node.attempt.members, (1,))
        self.assertEqual(node.sends(), to_all(("ask", 2, (1, 1))))

    def test_a_node_that_is_no_member_begins_too(self):
        node = new_node(2, 4, (0, 1))
        node.offer(("a",))
        self.assertEqual(updates(node), [("promise", 1, (1, 2))])
        self.assertEqual(node.sends(), to_all(("ask", 1, (1, 2)), 4))


class Ticks(unittest.TestCase):
    def test_patience_goes_down(self):
        node = new_node()
        for patience in range(7, 0, -1):
            node.tick()
            self.assertEqual((node.patience, node.sends()), (patience, []))

    def test_out_of_patience_with_nothing_waiting(self):
        for index in range(3):
            node = node_with([batch("a"), batch("b")], index)
            node.receive((index + 1) % 3, ("ask", 3, (1, 6)))
            node.sends()
            node.patience = 1
            node.tick()
            self.assertEqual((node.patience, node.guest), (6 + 2 * index, False))
            self.assertEqual(node.sends(), to_others(("fetch", 2), index))

    def test_out_of_patience_with_something_waiting(self):
        for offer in (lambda node: node.offer(("a",)), lambda node: node.offer_members((0,))):
            node = new_node()
            node.receive(0, ("ask", 1, (4, 0)))
            offer(node)
            node.sends()
            node.patience = 1
            node.tick()
            self.assertEqual((node.patience, node.guest, node.attempt.ballot), (8, False, (5, 1)))
            self.assertEqual(node.sends(), to_all(("ask", 1, (5, 1))))

    def test_out_of_patience_beside_an_attempt(self):
        node = new_node()
        node.offer(("a",))
        node.receive(0, ("promise", 1, (1, 1), None))
        node.offer(("b",))
        node.sends()
        for _ in range(8):
            node.tick()
        self.assertEqual(volatile(node), {
            **first_volatile(1), "waiting": [("a",), ("b",)],
            "attempt": ((2, 1), batch("a", "b"), FIRST, "asking", (), (), None),
        })
        self.assertEqual(node.sends(), to_all(("ask", 1, (2, 1))))

    def test_out_of_patience_without_a_next_ballot(self):
        node = new_node()
        node.receive(0, ("ask", 1, (9999, 0)))
        node.offer(("a",))
        node.sends()
        for _ in range(8):
            self.assertIs(node.guest, True)
            node.tick()
        self.assertEqual((node.patience, node.guest, node.attempt), (8, False, None))
        self.assertEqual(node.sends(), to_others(("fetch", 0)))
        for _ in range(8):
            node.tick()
        self.assertEqual((node.patience, node.sends()), (8, to_others(("fetch", 0))))

    def test_an_attempt_stays_without_a_next_ballot(self):
        node = new_node()
        node.receive(0, ("ask", 1, (9998, 0)))
        node.guest = False
        node.offer(("a",))
        node.sends()
        for _ in range(8):
            node.tick()
        self.assertEqual((node.attempt.ballot, node.patience), ((9999, 1), 8))
        self.assertEqual(node.sends(), to_others(("fetch", 0)))

    def test_a_cell_of_one_node_fetches_nowhere(self):
        node = new_node(0, 1, (0,))
        for _ in range(12):
            node.tick()
        self.assertEqual((node.sends(), node.patience), ([], 6))


if __name__ == "__main__":
    unittest.main()
