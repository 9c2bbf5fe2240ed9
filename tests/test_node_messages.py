"""Points [49] to [51]: what a node does with each message, for slots below, at and above the next one."""

import unittest

from nodes import FIRST, batch, everything, first_volatile, new_node, node_with, to_all, to_others, updates, volatile

ROW = [batch("a"), batch("b"), batch("c")]
ENTRY = batch("d")
ABOUT = {
    "ask": (lambda slot: ("ask", slot, (1, 0))),
    "tell": (lambda slot: ("tell", slot, (1, 0), ENTRY)),
    "promise": (lambda slot: ("promise", slot, (1, 1), None)),
    "voted": (lambda slot: ("voted", slot, (1, 1))),
    "refuse": (lambda slot: ("refuse", slot, (1, 1), (3, 0))),
    "chosen": (lambda slot: ("chosen", slot, ENTRY)),
}


def attempting(index=1, size=3, first_members=FIRST):
    """A node that attempts to bring the command a through, with the ballot (1, index)."""
    node = new_node(index, size, first_members)
    node.offer(("a",))
    node.sends()
    return node


def telling(*more):
    node = attempting()
    for name in more:
        node.offer((name,))
    node.receive(0, ("promise", 1, (1, 1), None))
    node.receive(1, ("promise", 1, (1, 1), None))
    node.sends()
    return node


class OtherSlots(unittest.TestCase):
    def test_slots_below(self):
        for slot in (1, 2, 3):
            for word, body in ABOUT.items():
                node = node_with(ROW)
                before = everything(node)
                node.receive(2, body(slot))
                self.assertEqual(everything(node), before, (word, slot))
                given = [(2, ("give", slot, tuple(ROW[slot - 1:])))]
                self.assertEqual(node.sends(), given if word in ("ask", "tell") else [], (word, slot))

    def test_slots_below_of_the_node_itself(self):
        for word, body in ABOUT.items():
            node = node_with(ROW)
            before = everything(node)
            node.receive(1, body(3))
            self.assertEqual((everything(node), node.sends()), (before, []), word)

    def test_slots_above(self):
        for slot in (5, 6, 40):
            for word, body in ABOUT.items():
                node = node_with(ROW)
                before = everything(node)
                node.receive(2, body(slot))
                self.assertEqual((everything(node), node.sends()), (before, [(2, ("fetch", 3))]), (word, slot))

    def test_slots_above_of_the_node_itself(self):
        for word, body in ABOUT.items():
            node = node_with(ROW)
            before = everything(node)
            node.receive(1, body(5))
            self.assertEqual((everything(node), node.sends()), (before, []), word)

    def test_at_most_thirty_are_given(self):
        row = [batch("c" + str(number)) for number in range(33)]
        node = node_with(row)
        for slot, count in ((1, 30), (3, 30), (4, 30), (5, 29), (33, 1)):
            node.receive(0, ("ask", slot, (1, 0)))
            self.assertEqual(node.sends(), [(0, ("give", slot, tuple(row[slot - 1:slot - 1 + count])))])


class Asked(unittest.TestCase):
    def test_by_another_node(self):
        node = new_node()
        node.patience = 2
        node.receive(2, ("ask", 1, (1, 2)))
        self.assertEqual(updates(node), [("promise", 1, (1, 2))])
        self.assertEqual(volatile(node), {**first_volatile(1), "guest": True})
        self.assertEqual(node.sends(), [(2, ("promise", 1, (1, 2), None))])

    def test_tells_what_was_accepted(self):
        node = new_node()
        node.receive(0, ("tell", 1, (1, 0), ENTRY))
        node.sends()
        node.receive(2, ("ask", 1, (2, 2)))
        self.assertEqual(node.sends(), [(2, ("promise", 1, (2, 2), ((1, 0), ENTRY)))])
        self.assertEqual(updates(node), [("accept", 1, (1, 0), ENTRY), ("promise", 1, (2, 2))])

    def test_a_ballot_that_is_promised_already(self):
        node = new_node()
        for _ in range(2):
            node.receive(2, ("ask", 1, (1, 2)))
            self.assertEqual(node.sends(), [(2, ("promise", 1, (1, 2), None))])
            self.assertEqual(updates(node), [("promise", 1, (1, 2))])

    def test_a_ballot_that_was_accepted_already(self):
        node = new_node()
        node.receive(2, ("tell", 1, (1, 2), ENTRY))
        node.sends()
        node.receive(2, ("ask", 1, (1, 2)))
        self.assertEqual(node.sends(), [(2, ("promise", 1, (1, 2), ((1, 2), ENTRY)))])
        self.assertEqual(len(updates(node)), 1)

    def test_by_itself(self):
        node = attempting()
        node.patience = 5
        before = everything(node)
        node.receive(1, ("ask", 1, (1, 1)))
        self.assertEqual(everything(node), before)
        self.assertEqual(node.sends(), [(1, ("promise", 1, (1, 1), None))])

    def test_a_ballot_that_is_not_heard(self):
        for sender, ballot in ((0, (3, 1)), (1, (1, 1)), (2, (2, 6))):
            node = new_node()
            node.receive(0, ("ask", 1, (3, 2)))
            node.sends()
            node.guest = False
            node.patience = 4
            before = everything(node)
            node.receive(sender, ("ask", 1, ballot))
            self.assertEqual(everything(node), before)
            self.assertEqual(node.sends(), [(sender, ("refuse", 1, ballot, (3, 2)))])

    def test_a_node_that_is_no_member(self):
        node = new_node(3, 4)
        node.patience = 2
        node.receive(2, ("ask", 1, (1, 2)))
        self.assertEqual(volatile(node), {**first_volatile(3), "guest": True})
        self.assertEqual((updates(node), node.sends()), ([], []))
        self.assertEqual(node.record.acceptor.promised, (0, 0))

    def test_a_node_that_is_no_member_refuses_too(self):
        node = attempting(3, 4)
        node.receive(2, ("ask", 1, (1, 2)))
        self.assertEqual(node.sends(), [(2, ("refuse", 1, (1, 2), (1, 3)))])

    def test_the_own_attempt_stays(self):
        node = attempting()
        node.receive(2, ("ask", 1, (1, 2)))
        self.assertEqual((node.attempt.ballot, node.guest), ((1, 1), True))


class Told(unittest.TestCase):
    def test_by_another_node(self):
        node = new_node()
        node.patience = 2
        node.receive(2, ("tell", 1, (1, 2), ENTRY))
        self.assertEqual(updates(node), [("accept", 1, (1, 2), ENTRY)])
        self.assertEqual(volatile(node), {**first_volatile(1), "guest": True})
        self.assertEqual(node.sends(), [(2, ("voted", 1, (1, 2)))])
        self.assertEqual(node.new_votes(), [(1, (1, 2), ENTRY)])

    def test_by_itself(self):
        node = telling()
        node.patience = 5
        node.receive(1, ("tell", 1, (1, 1), batch("a")))
        self.assertEqual((node.guest, node.patience), (False, 5))
        self.assertEqual(node.sends(), [(1, ("voted", 1, (1, 1)))])
        self.assertEqual(updates(node)[-1], ("accept", 1, (1, 1), batch("a")))

    def test_an_entry_that_was_accepted_already(self):
        node = new_node()
        for _ in range(2):
            node.receive(2, ("tell", 1, (1, 2), ENTRY))
            self.assertEqual(node.sends(), [(2, ("voted", 1, (1, 2)))])
        self.assertEqual(updates(node), [("accept", 1, (1, 2), ENTRY)])
        self.assertEqual(node.new_votes(), [(1, (1, 2), ENTRY)])

    def test_a_greater_ballot(self):
        node = new_node()
        node.receive(2, ("tell", 1, (1, 2), ENTRY))
        node.receive(0, ("tell", 1, (2, 0), batch("e")))
        self.assertEqual(updates(node), [("accept", 1, (1, 2), ENTRY), ("accept", 1, (2, 0), batch("e"))])
        self.assertEqual(node.new_votes(), [(1, (1, 2), ENTRY), (1, (2, 0), batch("e"))])

    def test_a_ballot_that_is_not_heard(self):
        for sender, ballot in ((0, (3, 1)), (1, (1, 1)), (2, (2, 6))):
            node = new_node()
            node.receive(0, ("ask", 1, (3, 2)))
            node.sends()
            node.guest = False
            node.patience = 4
            before = everything(node)
            node.receive(sender, ("tell", 1, ballot, ENTRY))
            self.assertEqual(everything(node), before)
            self.assertEqual(node.sends(), [(sender, ("refuse", 1, ballot, (3, 2)))])

    def test_a_node_that_is_no_member(self):
        node = new_node(3, 4)
        node.patience = 2
        node.receive(2, ("tell", 1, (1, 2), ENTRY))
        self.assertEqual(volatile(node), {**first_volatile(3), "guest": True})
        self.assertEqual((updates(node), node.sends(), node.new_votes()), ([], [], []))


class Promised(unittest.TestCase):
    def test_till_more_than_half_did(self):
        node = attempting()
        node.receive(2, ("promise", 1, (1, 1), None))
        self.assertEqual((node.attempt.stage, node.attempt.promised_by, node.sends()), ("asking", [2], []))
        node.receive(2, ("promise", 1, (1, 1), None))
        self.assertEqual(node.sends(), [])
        node.receive(0, ("promise", 1, (1, 1), None))
        self.assertEqual(node.sends(), to_all(("tell", 1, (1, 1), batch("a"))))
        node.receive(1, ("promise", 1, (1, 1), ((1, 0), ENTRY)))
        self.assertEqual((node.attempt.stage, node.attempt.promised_by, node.sends()), ("telling", [0, 2], []))
        self.assertEqual(len(updates(node)), 1)

    def test_with_an_accepted_entry(self):
        node = attempting(2)
        node.receive(0, ("promise", 1, (1, 2), ((1, 0), ENTRY)))
        node.receive(1, ("promise", 1, (1, 2), ((1, 1), batch("e"))))
        self.assertEqual(node.sends(), to_all(("tell", 1, (1, 2), batch("e"))))

    def test_of_another_ballot_or_without_an_attempt(self):
        for node in (attempting(), new_node()):
            before = everything(node)
            for ballot in ((1, 0), (2, 1), (1, 2)):
                for sender in range(3):
                    node.receive(sender, ("promise", 1, ballot, None))
                    node.receive(sender, ("voted", 1, ballot))
            self.assertEqual((everything(node), node.sends()), (before, []))


class Voted(unittest.TestCase):
    def test_till_more_than_half_did(self):
        node = telling()
        node.receive(2, ("voted", 1, (1, 1)))
        node.receive(2, ("voted", 1, (1, 1)))
        self.assertEqual((node.upto, node.attempt.voted_by, node.sends(), node.letters()), (0, [2], [], []))
        node.receive(0, ("voted", 1, (1, 1)))
        self.assertEqual(node.record.row, [batch("a")])
        self.assertEqual(node.sends(), to_others(("chosen", 1, batch("a"))))
        self.assertEqual(node.letters(), [(1, ("a",))])
        self.assertEqual((node.sends(), node.letters()), ([], []))
        self.assertEqual(volatile(node), {**first_volatile(1), "patience": 4, "lines": [("a",)]})
        self.assertEqual(updates(node)[-1], ("chosen", 1, batch("a")))

    def test_behind_that(self):
        node = telling()
        for sender in (0, 1, 2):
            node.receive(sender, ("voted", 1, (1, 1)))
        self.assertEqual((node.upto, len(node.sends())), (1, 2))

    def test_votes_ahead_of_telling(self):
        node = attempting()
        node.receive(0, ("voted", 1, (1, 1)))
        node.receive(2, ("voted", 1, (1, 1)))
        self.assertEqual((node.upto, node.attempt.stage, node.attempt.voted_by), (0, "asking", []))

    def test_begins_again_if_something_waits(self):
        node = telling("b", "c")
        node.receive(0, ("voted", 1, (1, 1)))
        node.receive(2, ("voted", 1, (1, 1)))
        self.assertEqual(volatile(node), {
            **first_volatile(1), "waiting": [("b",), ("c",)], "lines": [("a",)],
            "attempt": ((1, 1), batch("b", "c"), FIRST, "asking", (), (), None),
        })
        self.assertEqual(node.sends(), to_others(("chosen", 1, batch("a"))) + to_all(("ask", 2, (1, 1))))
        self.assertEqual(updates(node)[-2:], [("chosen", 1, batch("a")), ("promise", 2, (1, 1))])

    def test_begins_again_if_members_are_wanted(self):
        node = telling()
        node.offer_members((0, 1))
        node.receive(0, ("voted", 1, (1, 1)))
        node.receive(2, ("voted", 1, (1, 1)))
        self.assertEqual((node.attempt.entry, node.wanted), (("members", (0, 1)), (0, 1)))

    def test_counted_members(self):
        node = new_node()
        node.offer_members((1,))
        for sender in (0, 1):
            node.receive(sender, ("promise", 1, (1, 1), None))
        node.sends()
        for sender in (0, 1):
            node.receive(sender, ("voted", 1, (1, 1)))
        self.assertEqual((node.wanted, node.members_now, node.letters()), (None, (1,), []))
        self.assertEqual(node.sends(), to_others(("chosen", 1, ("members", (1,)))))


class Refused(unittest.TestCase):
    def test_the_own_ballot(self):
        node = attempting()
        node.patience = 2
        node.receive(0, ("refuse", 1, (1, 1), (4, 2)))
        self.assertEqual(volatile(node), {**first_volatile(1), "waiting": [("a",)], "guest": True, "seen": 4})
        self.assertEqual((len(updates(node)), node.sends()), (1, []))

    def test_another_ballot(self):
        for ballot in ((1, 0), (2, 1)):
            node = attempting()
            node.patience = 2
            before = volatile(node)
            node.receive(0, ("refuse", 1, ballot, (4, 2)))
            self.assertEqual(volatile(node), {**before, "seen": 4})

    def test_the_greatest_round_is_kept(self):
        node = new_node()
        for promised, seen in (((3, 0), 3), ((2, 6), 3), ((3, 6), 3), ((5, 0), 5), ((0, 0), 5)):
            node.receive(0, ("refuse", 1, (1, 1), promised))
            self.assertEqual(node.seen, seen)
        self.assertEqual((node.guest, node.attempt), (False, None))


class Learns(unittest.TestCase):
    def test_of_chosen(self):
        node = attempting()
        node.offer(("b",))
        node.receive(0, ("refuse", 1, (9, 9), (7, 0)))
        node.receive(0, ("ask", 1, (2, 0)))
        node.sends()
        node.receive(0, ("chosen", 1, batch("x", "a", "x")))
        self.assertEqual(volatile(node), {
            **first_volatile(1), "waiting": [("b",)], "patience": 4, "lines": [("x",), ("a",)],
        })
        self.assertEqual((node.sends(), node.letters()), ([], []))
        self.assertEqual(updates(node)[-1], ("chosen", 1, batch("x", "a", "x")))
        self.assertEqual((node.record.row, node.record.acceptor.promised), ([batch("x", "a", "x")], (0, 0)))

    def test_patience_of_each_index(self):
        for index in range(3):
            node = node_with([batch("a")], index)
            self.assertEqual(node.patience, 2 + 2 * index)

    def test_wanted_members_that_are_chosen(self):
        for chosen, wanted in (((0, 1), None), ((0, 2), (0, 1))):
            node = new_node()
            node.offer_members((0, 1))
            node.receive(0, ("chosen", 1, ("members", chosen)))
            self.assertEqual((node.wanted, node.members_now), (wanted, chosen))

    def test_from_itself(self):
        node = new_node()
        node.receive(1, ("chosen", 1, ENTRY))
        self.assertEqual((node.record.row, node.letters()), ([ENTRY], []))

    def test_a_batch_goes_to_the_machine_settled_or_not(self):
        told = []

        class Noting:
            def apply(self, command):
                told.append(command)
                return []

            def settled(self, command):
                return command == ("a",)

        node = new_node()
        node._make_machine = Noting
        node.machine = Noting()
        node.waiting = [("b",), ("a",), ("c",)]
        node.receive(0, ("chosen", 1, batch("a", "b", "a")))
        self.assertEqual(told, [("a",), ("b",), ("a",)])
        self.assertEqual(node.waiting, [("b",), ("c",)])


class Gives(unittest.TestCase):
    row = [batch("c" + str(number)) for number in range(65)]

    def test_fetch(self):
        node = node_with(self.row)
        before = everything(node)
        for upto, count in ((0, 30), (34, 30), (35, 30), (36, 29), (64, 1)):
            node.receive(2, ("fetch", upto))
            self.assertEqual(node.sends(), [(2, ("give", upto + 1, tuple(self.row[upto:upto + count])))])
        for upto in (65, 66, 100):
            node.receive(2, ("fetch", upto))
            self.assertEqual(node.sends(), [])
        self.assertEqual(everything(node), before)

    def test_give(self):
        for count in (1, 29, 30, 31):
            node = node_with(self.row[:2])
            node.receive(0, ("give", 3, tuple(self.row[2:2 + count])))
            self.assertEqual(node.record.row, self.row[:2 + count])
            self.assertEqual(len(node.machine.lines), 2 + count)
            self.assertEqual(node.sends(), [(0, ("fetch", 32))] if count == 30 else [], count)
            self.assertEqual((node.letters(), node.patience), ([], 4))

    def test_rows_of_29_to_31_entries_are_fetched_whole(self):
        for count in (29, 30, 31, 60, 61):
            full, empty = node_with(self.row[:count], 0), new_node()
            full.receive(1, ("fetch", 0))
            body = full.sends()[0][1]
            rounds = 0
            while body:
                empty.receive(0, body)
                asked = empty.sends()
                body = None
                if asked:
                    full.receive(1, asked[0][1])
                    body = (full.sends() or [(1, None)])[0][1]
                rounds += 1
            self.assertEqual((empty.record.row, rounds), (self.row[:count], (count + 29) // 30))

    def test_a_give_that_begins_below(self):
        node = node_with(self.row[:10])
        node.receive(0, ("give", 5, tuple(self.row[4:34])))
        self.assertEqual((node.record.row, node.sends()), (self.row[:34], [(0, ("fetch", 34))]))

    def test_a_give_of_nothing_new(self):
        node = node_with(self.row[:40])
        before = everything(node)
        node.receive(0, ("give", 5, tuple(self.row[4:34])))
        node.receive(0, ("give", 11, tuple(self.row[10:40])))
        self.assertEqual((everything(node), node.sends()), (before, []))

    def test_a_give_that_begins_above(self):
        node = node_with(self.row[:3])
        before = everything(node)
        node.receive(0, ("give", 5, tuple(self.row[4:34])))
        self.assertEqual((everything(node), node.sends()), (before, []))

    def test_a_give_settles_what_waits(self):
        node = attempting()
        node.offer(("c3",))
        node.receive(0, ("give", 1, tuple(self.row[:5])))
        self.assertEqual((node.waiting, node.attempt, node.seen), ([("a",)], None, 0))
        self.assertEqual(updates(node)[1:], [("chosen", slot, self.row[slot - 1]) for slot in range(1, 6)])


if __name__ == "__main__":
    unittest.main()
