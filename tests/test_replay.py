"""Points [91], [92] and [97]: replays, their order, who serves a key, and the whole rows."""

import unittest
from random import Random

from crosskeep.judge.replay import Replay, replay_of, servers_of, whole_rows
from crosskeep.keeper.keeper import Keeper
from crosskeep.world.world import World
from keepers import RANGES, answer, deal_of, dump, gets, lock_of, new_keeper, puts
from worlds import TWO_CELLS, WEIGHTS, Walk

NONE = ("done", (None,))
GIVE = ("give", 1, "b", "e", 2)


def told_by(letters, word):
    return [body for _, _, body in letters if body[0] == word][0]


class Replays(unittest.TestCase):
    def test_at_first(self):
        for cells in range(1, 5):
            replay = Replay(RANGES, cells)
            self.assertEqual([dump(keeper) for keeper in replay.keepers],
                             [dump(Keeper(cell, RANGES)) for cell in range(1, cells + 1)])
            self.assertEqual(replay.order, [])

    def test_commands_go_to_the_keeper_of_their_cell(self):
        replay = Replay(RANGES, 3)
        self.assertIsNone(replay.apply(2, deal_of(0, 1, puts(("h", 5)))))
        self.assertEqual([keeper.key_rows() for keeper in replay.keepers], [[], [("h", 5)], []])

    def test_the_order_in_which_deals_are_decided(self):
        replay = Replay(RANGES, 3)
        wide = deal_of(3, 7, puts(("a", 1), ("p", 2)))
        replay.apply(1, wide)
        replay.apply(3, lock_of(1, 3, 7, wide[3], 3))
        self.assertEqual(replay.order, [])
        replay.apply(2, deal_of(0, 1, ((("h", 1),), ())))
        replay.apply(2, deal_of(0, 1, ((("h", 1),), ())))
        replay.apply(1, deal_of(1, 1, puts(("a", 1))))
        replay.apply(1, deal_of(2, 1, puts(("b", 1), ("z", 1)), b=3))
        replay.apply(1, deal_of(2, 2, puts(("h", 1)), h=1))
        replay.apply(1, ("locked", 3, 7, 3, replay.keepers[2].verdict_of(3, 7)))
        replay.apply(3, deal_of(0, 2, gets("z")))
        self.assertEqual(replay.order, [
            (0, 1, ("unheld", (None,))), (3, 7, ("done", (None, None))), (0, 2, NONE)])

    def test_letters_go_nowhere(self):
        replay = Replay(RANGES, 3)
        replay.apply(1, GIVE)
        replay.apply(1, deal_of(3, 7, puts(("a", 1), ("p", 2))))
        self.assertEqual([dump(keeper) for keeper in replay.keepers[1:]],
                         [dump(Keeper(cell, RANGES)) for cell in (2, 3)])

    def test_of_a_world(self):
        world = World(*TWO_CELLS)
        self.assertEqual(dump(replay_of(world)), dump(Replay(TWO_CELLS[2], 2)))
        world.call(2, puts(("a", 1), ("z", 2)), 0)
        world.calm(30)
        world.call(2, puts(("z", 3)), 0)
        world.calm(30)
        replay = replay_of(world)
        self.assertIsInstance(replay, Replay)
        self.assertEqual(replay.order, [(2, 1, ("done", (None, None))), (2, 2, ("done", (2,)))])
        self.assertEqual([dump(keeper) for keeper in replay.keepers],
                         [dump(station.node.machine) for station in world.stations.values()])

    def test_of_the_commands_one_by_one(self):
        for seed in range(25):
            walk = Walk(Random(seed), kind=False)
            for _ in range(300):
                walk.step(WEIGHTS)
            replay = Replay(walk.plan[2], len(walk.plan[0]))
            for cell, command in walk.world.onlooker.commands():
                before = list(replay.order)
                replay.apply(cell, command)
                self.assertEqual(replay.order[:len(before)], before)
                self.assertLessEqual(len(replay.order), len(before) + 1)
            self.assertEqual(dump(replay), dump(replay_of(walk.world)))
            self.assertEqual(sorted(replay.order),
                             sorted(row for keeper in replay.keepers for row in keeper.decided_rows()))

    def test_replays_are_apart(self):
        world = World(*TWO_CELLS)
        world.call(2, puts(("a", 1)), 0)
        world.calm(10)
        replay = replay_of(world)
        replay.apply(2, deal_of(3, 3, puts(("z", 1)), z=2))
        replay.order.append("x")
        replay.keepers.pop()
        self.assertEqual((len(replay_of(world).keepers), replay_of(world).order), (2, [(2, 1, NONE)]))


class Servers(unittest.TestCase):
    def keepers(self):
        return [new_keeper(1, a=1, b=2, d=3), new_keeper(2, h=4), new_keeper(3, p=5)]

    def check(self, keepers, key, *cells):
        before = dump(keepers)
        self.assertEqual(servers_of(keepers, key), list(cells), key)
        self.assertEqual(dump(keepers), before)

    def test_own(self):
        for key, cell in (("a", 1), ("0", 1), ("g9", 1), ("h", 2), ("o", 2), ("p", 3), ("zz", 3)):
            self.check(self.keepers(), key, cell)

    def test_on_its_way(self):
        keepers = self.keepers()
        letters = keepers[0].apply(GIVE)
        for key, cell in (("a", 1), ("b", 1), ("d", 1), ("e", 1), ("h", 2)):
            self.check(keepers, key, cell)
        taken = keepers[1].apply(told_by(letters, "take"))
        for key, cell in (("a", 1), ("b", 2), ("d9", 2), ("e", 1)):
            self.check(keepers, key, cell)
        keepers[0].apply(told_by(taken, "taken"))
        for key, cell in (("a", 1), ("b", 2), ("d9", 2), ("e", 1)):
            self.check(keepers, key, cell)

    def test_on_its_way_back(self):
        keepers = self.keepers()
        take = told_by(keepers[0].apply(GIVE), "take")
        keepers[1].apply(take)
        back = told_by(keepers[1].apply(("give", 2, "b", "c", 1)), "take")
        # Cell 1 has it as leaving with epoch 2, cell 2 as leaving with epoch 3.
        self.check(keepers, "b", 2)
        keepers[0].apply(back)
        self.check(keepers, "b", 1)
        self.check(keepers, "c", 2)

    def test_a_lesser_epoch_further_on(self):
        keepers = self.keepers()
        keepers[1].apply(told_by(keepers[0].apply(GIVE), "take"))
        on = told_by(keepers[1].apply(("give", 2, "", None, 3)), "take")
        for key in ("b", "d", "h"):
            self.check(keepers, key, 2)
        keepers[2].apply(on)
        for key in ("b", "d", "h", "p"):
            self.check(keepers, key, 3)
        self.check(keepers, "a", 1)

    def test_none_and_several(self):
        keepers = [Keeper(2, RANGES), Keeper(2, RANGES)]
        self.check(keepers, "h", 1, 2)
        self.check(keepers, "a")


class WholeRows(unittest.TestCase):
    def keepers(self):
        return [new_keeper(1, a=1, b=2, d=3), new_keeper(2, h=4), new_keeper(3, p=5)]

    def check(self, keepers, **rows):
        before = dump(keepers)
        self.assertEqual(whole_rows(keepers), rows)
        self.assertEqual(dump(keepers), before)

    def test_rows_of_all_cells(self):
        self.check(self.keepers(), a=1, b=2, d=3, h=4, p=5)
        self.check([])
        self.check([Keeper(1, RANGES)])

    def test_each_key_from_the_cell_that_serves_it(self):
        keepers = self.keepers()
        take = told_by(keepers[0].apply(GIVE), "take")
        self.check(keepers, a=1, b=2, d=3, h=4, p=5)
        taken = told_by(keepers[1].apply(take), "taken")
        keepers[1].apply(deal_of(3, 5, ((), (("put", "b", 9), ("del", "d"))), b=2, d=2))
        # The first cell still has what it was.
        self.assertEqual(keepers[0].key_rows(), [("a", 1), ("b", 2), ("d", 3)])
        self.check(keepers, a=1, b=9, h=4, p=5)
        keepers[0].apply(taken)
        self.check(keepers, a=1, b=9, h=4, p=5)

    def wide(self):
        """Keepers behind a deal at all cells, and what the others said of it."""
        keepers = self.keepers()
        deal = ((("a", 1),), (("put", "a", 6), ("del", "h"), ("put", "i", 7), ("put", "p", 8)))
        locks = keepers[0].apply(deal_of(0, 4, deal))
        return keepers, [keepers[letter[1] - 1].apply(letter[2])[0][2] for letter in locks]

    def test_writes_of_deals_that_are_done(self):
        keepers, locked = self.wide()
        self.check(keepers, a=1, b=2, d=3, h=4, p=5)
        keepers[0].apply(locked[0])
        self.check(keepers, a=1, b=2, d=3, h=4, p=5)
        ends = keepers[0].apply(locked[1])[1:]
        self.assertEqual([keeper.hold_rows() for keeper in keepers], [[], [(0, 4, 1)], [(0, 4, 1)]])
        self.check(keepers, a=6, b=2, d=3, i=7, p=8)
        keepers[1].apply(ends[0][2])
        self.check(keepers, a=6, b=2, d=3, i=7, p=8)
        keepers[2].apply(ends[1][2])
        self.check(keepers, a=6, b=2, d=3, i=7, p=8)

    def test_no_writes_of_deals_that_are_not(self):
        for verdict in (("busy",), ("tried", (0, ((1, 4),), (), ()))):
            keepers, locked = self.wide()
            keepers[0].apply(locked[0])
            keepers[0].apply(("locked", 0, 4, 3, verdict))
            self.assertEqual(keepers[1].hold_rows(), [(0, 4, 1)])
            self.check(keepers, a=1, b=2, d=3, h=4, p=5)

    def test_no_writes_of_another_deal(self):
        # The holds of client 1 are not those of the home deal of client 0, though one has its number, one its home.
        keepers, locked = self.wide()
        keepers[1].apply(lock_of(3, 1, 4, puts(("k", 1)), 2))
        keepers[1].apply(lock_of(1, 1, 9, puts(("l", 1)), 2))
        for told in locked:
            keepers[0].apply(told)
        self.check(keepers, a=6, b=2, d=3, i=7, p=8)

    def test_dicts_that_are_returned_are_new(self):
        keepers = self.keepers()
        whole_rows(keepers).clear()
        self.check(keepers, a=1, b=2, d=3, h=4, p=5)

    def test_answers_are_those_of_the_letters(self):
        keepers, locked = self.wide()
        keepers[0].apply(locked[0])
        self.assertEqual(keepers[0].apply(locked[1])[0], answer(0, 4, ("done", (1, 4, None, 5))))


if __name__ == "__main__":
    unittest.main()
