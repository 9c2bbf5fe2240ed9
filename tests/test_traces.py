"""Point [107]: traces."""

import unittest
from random import Random

from crosskeep.audit.accesses import Trace
from crosskeep.data.deals import keys_of
from crosskeep.data.parts import keys_of_part, part_of
from crosskeep.keeper.keeper import Keeper
from keepers import RANGES, deal_of, dump, gets, lock_of, puts
from worlds import MOVING, Walk

KEYS = ("a", "b", "c", "d", "h")
TRIED = ("tried", (1, (), ((1, None),), (("h", 2),)))


def trace_of(*commands, cell=1):
    """The trace of a cell with these commands, each in a batch of its own."""
    return Trace(cell, RANGES, [("batch", (command,)) for command in commands])


def some_command(random, highest):
    """Any command of few names, so that what a deal does and the locks of the same name meet at one keeper."""
    word = random.choice(("deal", "deal", "lock", "lock", "end", "give", "take"))
    client, number = random.randrange(2), max(1, random.randint(highest - 1, highest))
    deal = gets(*random.sample(KEYS, random.randint(1, 3)))
    if word == "deal":
        return deal_of(client, number, deal, **{key: random.randint(1, 2) for key in KEYS})
    if word == "lock":
        return ("lock", random.randint(1, 2), client, number, part_of(deal, KEYS))
    if word == "end":
        return ("end", random.randint(1, 2), client, number, random.randrange(2))
    if word == "give":
        return ("give", random.randint(1, 3), "", random.choice(("b", "c", None)), 2)
    return ("take", 2, random.randint(1, 3), ((random.choice(("", "b", "h")), None, random.randint(2, 4), ()),))


def name_of(command):
    return command[1:3] if command[0] == "deal" else command[2:4]


def keys_come_to(keeper, command):
    """Point [107], read by the letters and the locks alone: the keys that a command which is carried out comes to."""
    if command[0] == "lock":
        held = keeper.hold_rows()
        keeper.apply(command)
        return keys_of_part(command[4]) if keeper.hold_rows() != held else ()
    settled = keeper.settled(command)
    letters = keeper.apply(command)
    if command[0] != "deal" or settled:
        return ()
    if letters[0][2][0] == "answer":
        return keys_of(command[3]) if letters[0][2][2][0] in ("done", "unheld") else ()
    return [key for key, cell in command[4] if cell == 1]


class Traces(unittest.TestCase):
    def check(self, trace, *accesses):
        """The accesses are told without their places."""
        self.assertEqual(trace.accesses, [(key, epoch, place, name)
                                          for place, (key, epoch, name) in enumerate(accesses)])

    def test_no_row(self):
        trace = Trace(2, RANGES, [])
        self.assertEqual((trace.accesses, dump(trace.keeper)), ([], dump(Keeper(2, RANGES))))

    def test_the_keeper_follows_the_row(self):
        row = [("batch", (deal_of(0, 1, puts(("a", 1))), deal_of(1, 1, puts(("b", 1))))), ("members", (0,)),
               ("batch", (("give", 1, "", "b", 2),))]
        trace = Trace(1, RANGES, row)
        keeper = Keeper(1, RANGES)
        for command in row[0][1] + row[2][1]:
            keeper.apply(command)
        self.assertEqual(dump(trace.keeper), dump(keeper))
        self.check(trace, ("a", 1, (0, 1)), ("b", 1, (1, 1)))

    def test_deals_at_one_cell(self):
        self.check(trace_of(deal_of(2, 4, puts(("c", 1), ("a", 1), ("c", 2)))), ("a", 1, (2, 4)), ("c", 1, (2, 4)))
        # Also one that does not hold, and one that only looks.
        self.check(trace_of(deal_of(0, 1, ((("b", 5), ("a", None)), (("put", "c", 1),))), deal_of(0, 2, gets("a"))),
                   ("a", 1, (0, 1)), ("b", 1, (0, 1)), ("c", 1, (0, 1)), ("a", 1, (0, 2)))

    def test_deals_at_several_cells(self):
        deal = puts(("b", 1), ("h", 2), ("a", 1), ("p", 3))
        home = trace_of(deal_of(3, 1, deal))
        self.check(home, ("a", 1, (3, 1)), ("b", 1, (3, 1)))
        self.check(trace_of(lock_of(1, 3, 1, deal, 2), cell=2), ("h", 1, (3, 1)))
        self.check(trace_of(lock_of(1, 3, 1, deal, 3), cell=3), ("p", 1, (3, 1)))
        # The home comes to no keys of its own when the keys are not believed to be there.
        self.check(trace_of(deal_of(3, 1, deal, a=2, b=2)))

    def test_the_other_commands_of_a_deal(self):
        deal = puts(("a", 1), ("h", 2))
        self.check(trace_of(deal_of(3, 1, deal), ("locked", 3, 1, 2, TRIED), ("ended", 3, 1, 2)), ("a", 1, (3, 1)))
        self.check(trace_of(lock_of(1, 3, 1, deal, 2), ("end", 1, 3, 1, 1), cell=2), ("h", 1, (3, 1)))
        self.check(trace_of(("end", 1, 3, 1, 1), lock_of(1, 3, 1, deal, 2), cell=2))

    def test_again(self):
        deal = puts(("a", 1), ("h", 2))
        own = deal_of(0, 1, puts(("b", 1)))
        self.check(trace_of(own, own, own), ("b", 1, (0, 1)))
        self.check(trace_of(deal_of(3, 1, deal), deal_of(3, 1, deal)), ("a", 1, (3, 1)))
        lock = lock_of(1, 3, 1, deal, 2)
        self.check(trace_of(lock, lock, ("end", 1, 3, 1, 1), lock, cell=2), ("h", 1, (3, 1)))

    def test_refused(self):
        lock = lock_of(2, 3, 1, puts(("a", 1), ("h", 2)), 1)
        busy = deal_of(0, 1, puts(("a", 1)))
        self.check(trace_of(lock, busy, busy), ("a", 1, (3, 1)))
        self.check(trace_of(lock, deal_of(0, 1, puts(("a", 1), ("p", 1)))), ("a", 1, (3, 1)))
        self.check(trace_of(lock, lock_of(3, 0, 1, puts(("a", 1), ("p", 2)), 1)), ("a", 1, (3, 1)))
        self.check(trace_of(deal_of(0, 1, puts(("h", 1)), h=1), deal_of(0, 2, puts(("h", 1), ("p", 1)), h=1)))
        self.check(trace_of(("lock", 2, 0, 1, ((), ((0, ("get", "h")),)))))

    def test_refused_behind_a_lock_of_the_same_name(self):
        lock = lock_of(2, 0, 1, puts(("a", 1), ("h", 2)), 1)
        for refused, answer in (
            (deal_of(0, 1, puts(("a", 1))), ("busy",)),
            (deal_of(0, 1, puts(("a", 1), ("b", 1))), ("busy",)),
            (deal_of(0, 1, puts(("a", 1), ("p", 1))), ("busy",)),
            (deal_of(0, 1, puts(("h", 1)), h=1), ("moved", (("h", "p", 2, 1),))),
            (deal_of(0, 1, puts(("b", 1), ("h", 1), ("p", 1)), h=1), ("moved", (("h", "p", 2, 1),))),
        ):
            with self.subTest(refused=refused):
                trace = trace_of(lock, refused, refused, lock)
                self.check(trace, ("a", 1, (0, 1)))
                self.assertEqual(trace.keeper.answer_of(0, 1), answer)
                self.assertEqual(trace.keeper.hold_rows(), [(0, 1, 2)])
                # The next accesses are counted without any for what was refused.
                self.check(trace_of(lock, refused, deal_of(1, 1, puts(("b", 1)))), ("a", 1, (0, 1)), ("b", 1, (1, 1)))

    def test_not_refused_behind_a_lock_of_the_same_name(self):
        lock = lock_of(2, 0, 1, puts(("a", 1), ("h", 2)), 1)
        self.check(trace_of(lock, deal_of(0, 1, puts(("c", 1), ("b", 1)))),
                   ("a", 1, (0, 1)), ("b", 1, (0, 1)), ("c", 1, (0, 1)))
        self.check(trace_of(lock, deal_of(0, 1, ((("b", 5),), ()))), ("a", 1, (0, 1)), ("b", 1, (0, 1)))
        self.check(trace_of(lock, deal_of(0, 1, puts(("b", 1), ("p", 1)))), ("a", 1, (0, 1)), ("b", 1, (0, 1)))
        # Here the deal waits for other cells and gets no hold by this command.
        self.check(trace_of(lock, deal_of(0, 1, puts(("a", 1), ("p", 1)), a=2)), ("a", 1, (0, 1)))
        self.check(trace_of(lock, ("end", 2, 0, 1, 0), deal_of(0, 1, puts(("a", 1)))),
                   ("a", 1, (0, 1)), ("a", 1, (0, 1)))

    def test_drawn_rows_against_a_plain_reading(self):
        random = Random(107)
        refused = 0
        for _ in range(1500):
            commands = [some_command(random, 1 + place // 4) for place in range(random.randint(1, 16))]
            keeper, accesses = Keeper(1, RANGES), []
            for command in commands:
                name = name_of(command)
                held = name in [row[:2] for row in keeper.hold_rows()]
                counts = held and command[0] == "deal" and not keeper.settled(command)
                keys = keys_come_to(keeper, command)
                refused += counts and keeper.answer_of(*name) is not None and not keys
                for key in keys:
                    epoch = [epoch for start, _, _, epoch, _ in keeper.piece_rows() if start <= key][-1]
                    accesses.append((key, epoch, name))
            self.check(trace_of(*commands), *accesses)
        self.assertGreater(refused, 50, refused)

    def test_epochs_of_pieces_that_were_handed_over(self):
        take = ("take", 2, 1, (("h", "i", 4, ()), ("k", "m", 2, (("k", 5),))))
        self.check(trace_of(deal_of(0, 1, gets("a")), take, deal_of(0, 2, gets("a", "h", "k"), h=1, k=1),
                            lock_of(3, 1, 1, gets("h"), 2), cell=1),
                   ("a", 1, (0, 1)), ("a", 1, (0, 2)), ("h", 4, (0, 2)), ("k", 2, (0, 2)), ("h", 4, (1, 1)))
        back = ("take", 2, 9, (("a", "b", 3, ()),))
        self.check(trace_of(deal_of(0, 1, gets("a")), ("give", 1, "", "c", 2), deal_of(0, 2, gets("a")), back,
                            deal_of(0, 3, gets("a")), deal_of(0, 4, gets("b")), deal_of(0, 5, gets("d"))),
                   ("a", 1, (0, 1)), ("a", 3, (0, 3)), ("d", 1, (0, 5)))

    def test_names_and_places(self):
        trace = trace_of(deal_of(0, 7, gets("b", "a")), lock_of(2, 3, 1, puts(("c", 1), ("h", 2)), 1))
        self.assertEqual(trace.accesses, [("a", 1, 0, (0, 7)), ("b", 1, 1, (0, 7)), ("c", 1, 2, (3, 1))])

    def test_what_is_passed_stays(self):
        row = [("batch", (deal_of(0, 1, gets("a")),)), ("members", (0,))]
        Trace(1, RANGES, row)
        self.assertEqual(row, [("batch", (deal_of(0, 1, gets("a")),)), ("members", (0,))])

    def test_locked_keys_are_those_of_accesses(self):
        for seed in range(30):
            walk = Walk(Random(seed), kind=False)
            for _ in range(300):
                walk.step(MOVING)
            for cell, tally in enumerate(walk.world.onlooker.tallies, 1):
                trace = Trace(cell, walk.plan[2], tally.row)
                self.assertEqual([access[2] for access in trace.accesses], list(range(len(trace.accesses))))
                came = {(key, name) for key, _, _, name in trace.accesses}
                self.assertEqual(len(came), len(trace.accesses))
                for key, client, number in trace.keeper.lock_rows():
                    self.assertIn((key, (client, number)), came)


if __name__ == "__main__":
    unittest.main()
