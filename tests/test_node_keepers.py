"""Points [41], [53] and [58]: keepers as the machines of the nodes of a cell."""

import unittest
from random import Random

from cells import Cell
from crosskeep.keeper.keeper import Keeper
from keepers import RANGES, answer, deal_of, dump, lock_of, puts


class NodesWithKeepers(unittest.TestCase):
    def cell(self):
        return Cell(Random(58), 3, (0, 1, 2), make_machine=lambda: Keeper(1, RANGES))

    def offer(self, cell, index, command):
        took = cell.nodes[index].offer(command)
        cell.collect(cell.nodes[index])
        for _ in range(12):
            cell.kind_round()
        return took

    def busy_cell(self):
        cell = self.cell()
        for index, command in enumerate((
            deal_of(0, 1, puts(("a", 1))), deal_of(1, 1, puts(("b", 2), ("h", 3))),
            lock_of(2, 2, 1, puts(("c", 4)), 1), ("give", 1, "d", "e", 3),
        )):
            self.assertIs(self.offer(cell, index % 3, command), True)
        return cell

    def test_keepers_are_equal(self):
        cell = self.busy_cell()
        wanted = Keeper(1, RANGES)
        for entry in cell.tally.row:
            for command in entry[1]:
                wanted.apply(command)
        self.assertEqual([len(rows) for rows in (wanted.lock_rows(), wanted.home_rows(), wanted.leaving_rows())],
                         [2, 1, 1])
        for node in cell.nodes:
            self.assertEqual(dump(node.machine), dump(wanted))

    def test_behind_a_restart_and_in_a_fork(self):
        cell = self.busy_cell()
        node = cell.nodes[1]
        wanted = dump(node.machine)
        twin = node.fork(lambda: Keeper(1, RANGES))
        node.crash(0)
        self.assertEqual(dump(node.machine), dump(Keeper(1, RANGES)))
        node.restart()
        self.assertEqual((dump(node.machine), dump(twin.machine)), (wanted, wanted))
        twin.machine.apply(("end", 2, 2, 1, 1))
        self.assertEqual(dump(node.machine), wanted)

    def test_settled_commands_are_not_taken(self):
        cell = self.busy_cell()
        self.assertIs(self.offer(cell, 2, deal_of(0, 1, puts(("a", 1)))), False)
        self.assertIs(self.offer(cell, 2, ("give", 1, "d", "e", 3)), False)
        self.assertIs(self.offer(cell, 2, ("taken", 1)), True)
        self.assertIs(self.offer(cell, 0, ("taken", 1)), False)

    def test_letters_of_the_node_that_counted(self):
        cell = self.busy_cell()
        self.assertEqual([letter for _, letter in cell.letters][0], answer(0, 1, ("done", (None,))))
        self.assertEqual([(letter[0], letter[2][0]) for _, letter in cell.letters],
                         [("client", "answer"), ("cell", "lock"), ("cell", "locked"), ("cell", "take")])


if __name__ == "__main__":
    unittest.main()
