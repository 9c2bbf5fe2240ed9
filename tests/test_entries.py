"""Point [40]: rows, slots, entries and the members of slots."""

import unittest

from crosskeep.ledger.entries import MOST_BATCH, MOST_GIVEN, MOST_WAITING, batch_of, commands_of, members_of_slot

BATCH = ("batch", (("x", 1),))


class Entries(unittest.TestCase):
    def test_names(self):
        self.assertEqual((MOST_BATCH, MOST_WAITING, MOST_GIVEN), (8, 16, 30))

    def test_batches_of_few_and_of_many(self):
        commands = [("c", number) for number in range(17)]
        self.assertEqual(batch_of(commands[:1]), ("batch", (("c", 0),)))
        for count in range(1, 18):
            self.assertEqual(batch_of(commands[:count]), ("batch", tuple(commands[:min(count, 8)])), count)

    def test_the_list_stays(self):
        commands = [("c", number) for number in range(9)]
        batch_of(commands)
        self.assertEqual(commands, [("c", number) for number in range(9)])

    def test_commands(self):
        self.assertEqual(commands_of(BATCH), [("x", 1)])
        self.assertEqual(commands_of(("batch", (("b",), ("a",), ("b",)))), [("b",), ("a",), ("b",)])
        self.assertEqual(commands_of(("members", (0, 1))), [])
        commands_of(BATCH).append("more")
        self.assertEqual(commands_of(BATCH), [("x", 1)])

    def test_members_without_entries_of_members(self):
        for row in ([], [BATCH], [BATCH] * 3):
            for slot in range(1, len(row) + 2):
                self.assertEqual(members_of_slot((0, 2), row, slot), (0, 2))

    def test_members_by_the_entries_below(self):
        row = [BATCH, ("members", (1, 2)), BATCH, ("members", (3,)), ("members", (0, 4)), BATCH]
        wanted = [(0, 2), (0, 2), (1, 2), (1, 2), (3,), (0, 4), (0, 4)]
        self.assertEqual([members_of_slot((0, 2), row, slot) for slot in range(1, 8)], wanted)
        self.assertEqual(len(row), 6)

    def test_an_entry_of_members_counts_for_the_slots_above(self):
        row = [("members", (5,))]
        self.assertEqual(members_of_slot((0,), row, 1), (0,))
        self.assertEqual(members_of_slot((0,), row, 2), (5,))


if __name__ == "__main__":
    unittest.main()
