"""Point [107]: traces."""

import unittest
from random import Random

from crosskeep.audit.accesses import Trace
from crosskeep.keeper.keeper import Keeper
from keepers import RANGES, deal_of, dump, gets, lock_of, puts
from worlds import MOVING, Walk

TRIED = ("tried", (1, (), ((1, None),), (("h", 2),)))


def trace_of(*commands, cell=1):
    """The trace of a cell with these commands, each in a batch of its own."""
    return Trace(cell, RANGES, [("batch", (command,)) for command in commands])


class Traces(unittest.TestCase):
    def check(self, trace, *accesses):
        """The accesses are told without their places."""
        self.assertEqual(trace.accesses, [(key, epoch, place, name)
                                          for place, (key, epoch, name) in enumerate(accesses)])

    def test_no_row(self):
        trace = Trace(2, RANGES, [])
        self.assertEqual((trace.accesses, dump(trace.keeper)), ([], dump(Keeper(2, RANGES))))

    def test_the_keeper_follows_the_row(self):
        row = [("batch", (deal_of(0, 1, puts(("a", 1))), deal_of(1, 1, puts(("b", 1))))), ("members", (0,)),
               ("batch", (("give", 1, "", "b", 2),))]
        trace = Trace(1, RANGES, row)
        keeper = Keeper(1, RANGES)
        for command in row[0][1] + row[2][1]:
            keeper.apply(command)
        self.assertEqual(dump(trace.keeper), dump(keeper))
        self.check(trace, ("a", 1, (0, 1)), ("b", 1, (1, 1)))

    def test_deals_at_one_cell(self):
        self.check(trace_of(deal_of(2, 4, puts(("c", 1), ("a", 1), ("c", 2)))), ("a", 1, (2, 4)), ("c", 1, (2, 4)))
        # Also one that does not hold, and one that only looks.
        self.check(trace_of(deal_of(0, 1, ((("b", 5), ("a", None)), (("put", "c", 1),))), deal_of(0, 2, gets("a"))),
                   ("a", 1, (0, 1)), ("b", 1, (0, 1)), ("c", 1, (0, 1)), ("a", 1, (0, 2)))

    def test_deals_at_several_cells(self):
        deal = puts(("b", 1), ("h", 2), ("a", 1), ("p", 3))
        home = trace_of(deal_of(3, 1, deal))
        self.check(home, ("a", 1, (3, 1)), ("b", 1, (3, 1)))
        self.check(trace_of(lock_of(1, 3, 1, deal, 2), cell=2), ("h", 1, (3, 1)))
        self.check(trace_of(lock_of(1, 3, 1, deal, 3), cell=3), ("p", 1, (3, 1)))
        # The home comes to no keys of its own when the keys are not believed to be there.
        self.check(trace_of(deal_of(3, 1, deal, a=2, b=2)))

    def test_the_other_commands_of_a_deal(self):
        deal = puts(("a", 1), ("h", 2))
        self.check(trace_of(deal_of(3, 1, deal), ("locked", 3, 1, 2, TRIED), ("ended", 3, 1, 2)), ("a", 1, (3, 1)))
        self.check(trace_of(lock_of(1, 3, 1, deal, 2), ("end", 1, 3, 1, 1), cell=2), ("h", 1, (3, 1)))
        self.check(trace_of(("end", 1, 3, 1, 1), lock_of(1, 3, 1, deal, 2), cell=2))

    def test_again(self):
        deal = puts(("a", 1), ("h", 2))
        own = deal_of(0, 1, puts(("b", 1)))
        self.check(trace_of(own, own, own), ("b", 1, (0, 1)))
        self.check(trace_of(deal_of(3, 1, deal), deal_of(3, 1, deal)), ("a", 1, (3, 1)))
        lock = lock_of(1, 3, 1, deal, 2)
        self.check(trace_of(lock, lock, ("end", 1, 3, 1, 1), lock, cell=2), ("h", 1, (3, 1)))

    def test_refused(self):
        lock = lock_of(2, 3, 1, puts(("a", 1), ("h", 2)), 1)
        busy = deal_of(0, 1, puts(("a", 1)))
        self.check(trace_of(lock, busy, busy), ("a", 1, (3, 1)))
        self.check(trace_of(lock, deal_of(0, 1, puts(("a", 1), ("p", 1)))), ("a", 1, (3, 1)))
        self.check(trace_of(lock, lock_of(3, 0, 1, puts(("a", 1), ("p", 2)), 1)), ("a", 1, (3, 1)))
        self.check(trace_of(deal_of(0, 1, puts(("h", 1)), h=1), deal_of(0, 2, puts(("h", 1), ("p", 1)), h=1)))
        self.check(trace_of(("lock", 2, 0, 1, ((), ((0, ("get", "h")),)))))

    def test_epochs_of_pieces_that_were_handed_over(self):
        take = ("take", 2, 1, (("h", "i", 4, ()), ("k", "m", 2, (("k", 5),))))
        self.check(trace_of(deal_of(0, 1, gets("a")), take, deal_of(0, 2, gets("a", "h", "k"), h=1, k=1),
                            lock_of(3, 1, 1, gets("h"), 2), cell=1),
                   ("a", 1, (0, 1)), ("a", 1, (0, 2)), ("h", 4, (0, 2)), ("k", 2, (0, 2)), ("h", 4, (1, 1)))
        back = ("take", 2, 9, (("a", "b", 3, ()),))
        self.check(trace_of(deal_of(0, 1, gets("a")), ("give", 1, "", "c", 2), deal_of(0, 2, gets("a")), back,
                            deal_of(0, 3, gets("a")), deal_of(0, 4, gets("b")), deal_of(0, 5, gets("d"))),
                   ("a", 1, (0, 1)), ("a", 3, (0, 3)), ("d", 1, (0, 5)))

    def test_names_and_places(self):
        trace = trace_of(deal_of(0, 7, gets("b", "a")), lock_of(2, 3, 1, puts(("c", 1), ("h", 2)), 1))
        self.assertEqual(trace.accesses, [("a", 1, 0, (0, 7)), ("b", 1, 1, (0, 7)), ("c", 1, 2, (3, 1))])

    def test_what_is_passed_stays(self):
        row = [("batch", (deal_of(0, 1, gets("a")),)), ("members", (0,))]
        Trace(1, RANGES, row)
        self.assertEqual(row, [("batch", (deal_of(0, 1, gets("a")),)), ("members", (0,))])

    def test_locked_keys_are_those_of_accesses(self):
        for seed in range(30):
            walk = Walk(Random(seed), kind=False)
            for _ in range(300):
                walk.step(MOVING)
            for cell, tally in enumerate(walk.world.onlooker.tallies, 1):
                trace = Trace(cell, walk.plan[2], tally.row)
                self.assertEqual([access[2] for access in trace.accesses], list(range(len(trace.accesses))))
                came = {(key, name) for key, _, _, name in trace.accesses}
                self.assertEqual(len(came), len(trace.accesses))
                for key, client, number in trace.keeper.lock_rows():
                    self.assertIn((key, (client, number)), came)


if __name__ == "__main__":
    unittest.main()
