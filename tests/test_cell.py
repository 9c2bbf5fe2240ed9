"""Points [53] to [57]: what is guaranteed of the nodes of a cell, whatever happens to them."""

import unittest
from random import Random

from cells import Cell, fault_of_cell, lost_slot

WEIGHTS = {"deliver": 60, "drop": 3, "double": 3, "tick": 12, "sync": 8, "offer": 4, "offer_members": 1,
           "crash": 1.5, "restart": 3, "wipe": 0.1}


def some_cell(random, **more):
    size = random.randint(1, 7)
    members = tuple(sorted(random.sample(range(size), random.randint(1, min(5, size)))))
    return Cell(random, size, members, random.random() < 0.5, **more)


class AnyRowOfSteps(unittest.TestCase):
    def run_cells(self, seed, count, steps, **more):
        random = Random(seed)
        for number in range(count):
            cell = some_cell(random)
            weights = {**WEIGHTS, "double": random.choice((0, 3, 12)), "wipe": random.choice((0, 0.1, 0.5))}
            for _ in range(random.randrange(steps)):
                cell.step(weights, **more)
                self.assertEqual(cell.faults, [], number)
            yield cell

    def test_rows_are_beginnings_of_one_row(self):
        lengths = []
        for cell in self.run_cells(53, 60, 1200):
            self.assertIsNone(fault_of_cell(cell))
            lengths.append(len(cell.tally.row))
        self.assertGreater(max(lengths), 12)
        self.assertGreater(sum(lengths), 100)

    def test_whatever_is_wiped(self):
        for cell in self.run_cells(54, 30, 900, wipes=True):
            self.assertIsNone(fault_of_cell(cell))

    def test_no_entry_is_lost(self):
        wiped, changed = 0, 0
        for cell in self.run_cells(56, 60, 1200):
            self.assertIsNone(lost_slot(cell))
            wiped += any(node.state == "gone" for node in cell.nodes)
            changed += any(entry[0] == "members" for entry in cell.tally.row)
        self.assertGreater(wiped, 5)
        self.assertGreater(changed, 5)

    def test_step_by_step(self):
        random = Random(55)
        for _ in range(12):
            cell = some_cell(random)
            for _ in range(160):
                before = [(node.state, len(node.record.row)) for node in cell.nodes]
                synced = [node.journal.synced_frames for node in cell.nodes]
                row = list(cell.tally.row)
                cell.step(WEIGHTS)
                self.assertIsNone(fault_of_cell(cell))
                self.assertIsNone(lost_slot(cell))
                self.assertEqual(cell.tally.row[:len(row)], row)
                for node, (state, length), frames in zip(cell.nodes, before, synced):
                    if node.state != "gone":
                        self.assertGreaterEqual(node.journal.frame_count, frames)
                    if state == "down" and node.state == "up":
                        self.assertEqual(node.upto, length)


class KindRounds(unittest.TestCase):
    def may_go_on(self, cell):
        """The conditions of point [57]."""
        living = cell.living()
        if not living:
            return False
        longest = max(living, key=lambda node: node.upto)
        up = [node.index for node in living]
        return (longest.upto - min(node.upto for node in living) <= 30
                and 2 * len([index for index in longest.members_now if index in up]) > len(longest.members_now))

    def check_goes_on(self, cell):
        """Return True if all came to an end, False if members came up of whom too many are down."""
        while cell.waits():
            if not self.may_go_on(cell):
                return False
            longest = max(node.upto for node in cell.living())
            for _ in range(80):
                cell.kind_round()
                if not cell.waits() or max(node.upto for node in cell.living()) > longest:
                    break
            else:
                self.fail("nothing went on")
        for _ in range(80):
            cell.kind_round()
        rows = [node.record.row for node in cell.living()]
        self.assertTrue(all(row == rows[0] for row in rows))
        return True

    def test_what_waits_becomes_a_line(self):
        random = Random(57)
        seen = 0
        for _ in range(60):
            cell = some_cell(random)
            for _ in range(random.randrange(500)):
                cell.step({**WEIGHTS, "restart": random.choice((0, 6))})
            if self.may_go_on(cell):
                wished = [(node, list(node.waiting)) for node in cell.living()]
                if self.check_goes_on(cell):
                    seen += 1
                    for node, waiting in wished:
                        self.assertEqual([command for command in waiting if command not in node.machine.lines], [])
                self.assertIsNone(fault_of_cell(cell))
        self.assertGreater(seen, 20)

    def test_letters_tell_each_line_once_at_most(self):
        random = Random(58)
        for size in (1, 3, 5):
            cell = Cell(random, size, tuple(range(size)))
            for number in range(20):
                cell.nodes[number % size].offer(("c", number))
                cell.collect(cell.nodes[number % size])
                cell.kind_round()
            self.assertTrue(self.check_goes_on(cell))
            lines = cell.nodes[0].machine.lines
            self.assertEqual(sorted(letter for _, letter in cell.letters),
                             [(place, line) for place, line in enumerate(lines, 1)])
            self.assertEqual(len(lines), 20)

    def test_members_are_replaced(self):
        random = Random(59)
        cell = Cell(random, 5, (0, 1, 2))
        for number in range(9):
            cell.nodes[0].offer(("c", number))
        cell.nodes[1].offer_members((2, 3, 4))
        cell.collect(cell.nodes[0])
        cell.collect(cell.nodes[1])
        self.assertTrue(self.check_goes_on(cell))
        self.assertEqual({node.members_now for node in cell.nodes}, {(2, 3, 4)})
        for index in (0, 1):
            cell.nodes[index].wipe()
        cell.nodes[4].offer(("more",))
        cell.collect(cell.nodes[4])
        self.assertTrue(self.check_goes_on(cell))
        for index in (2, 3, 4):
            self.assertEqual(len(cell.nodes[index].machine.lines), 10)
        self.assertIsNone(fault_of_cell(cell))

    def test_a_node_that_lags_behind_comes_up(self):
        random = Random(60)
        cell = Cell(random, 3, (0, 1, 2))
        cell.nodes[2].crash(0)
        for number in range(75):
            cell.nodes[0].offer(("c", number))
            cell.collect(cell.nodes[0])
            for _ in range(3):
                cell.kind_round()
        self.assertGreater(cell.nodes[0].upto, 45)
        cell.nodes[2].restart()
        for _ in range(80):
            cell.kind_round()
        self.assertEqual(cell.nodes[2].record.row, cell.nodes[0].record.row)
        self.assertEqual(cell.nodes[2].machine.lines, cell.nodes[0].machine.lines)


if __name__ == "__main__":
    unittest.main()
