"""Points [108] to [110]: the order of the audit, and its faults."""

import unittest
from random import Random

from crosskeep.audit.audit import audit, sorted_names
from crosskeep.judge.explain import fault_of
from crosskeep.world.plan import Plan
from crosskeep.world.world import World
from keepers import deal_of, gets, lock_of, puts
from worlds import TWO_CELLS, Walk

# The ranges of the cells are those of keepers.RANGES.
PLAN = Plan((1, 3, 1), ((0,), (0, 1, 2), (0,)), (("", 1), ("h", 2), ("p", 3)), False)
NONE = ("done", (None,))
BOTH = ("done", (None, None))
HELD = ("tried", (1, (), ((1, None),), (("h", 1),)))


def votes_of(cell, *commands):
    """Votes by which all first members chose these commands, each in a batch of its own."""
    return [(slot, index, (1, 0), ("batch", (command,)))
            for slot, command in enumerate(commands, 1) for index in PLAN.members[cell - 1]]


def history_of(*records):
    """Each record is (client, number, deal, asked, answered, answer)."""
    return sorted(records, key=lambda record: record[3])


class SortedNames(unittest.TestCase):
    names = [(2, 1), (0, 2), (1, 1), (0, 1)]

    def check(self, pairs, order, names=None):
        names = self.names if names is None else names
        for told in (pairs, pairs[::-1], pairs + pairs):
            for given in (names, names[::-1], {name: None for name in names}):
                before = (list(told), list(given))
                self.assertEqual(sorted_names(given, told), order)
                self.assertEqual((told, list(given)), before)

    def test_without_pairs(self):
        self.check([], [(0, 1), (0, 2), (1, 1), (2, 1)])
        self.check([], [], [])
        self.check([], [(0, 2), (0, 11), (10, 1)], [(10, 1), (0, 11), (0, 2)])

    def test_the_least_name_waits_for_another(self):
        self.check([((2, 1), (0, 1))], [(0, 2), (1, 1), (2, 1), (0, 1)])
        self.check([((1, 1), (0, 1))], [(0, 2), (1, 1), (0, 1), (2, 1)])
        self.check([((2, 1), (0, 1)), ((2, 1), (0, 2))], [(1, 1), (2, 1), (0, 1), (0, 2)])
        self.check([((2, 1), (1, 1)), ((1, 1), (0, 2)), ((0, 2), (0, 1))], [(2, 1), (1, 1), (0, 2), (0, 1)])
        self.check([((2, 1), (0, 1)), ((1, 1), (0, 1))], [(0, 2), (1, 1), (2, 1), (0, 1)])

    def test_circles(self):
        self.check([((0, 1), (1, 1)), ((1, 1), (0, 1))], None)
        self.check([((0, 1), (1, 1)), ((1, 1), (2, 1)), ((2, 1), (0, 1))], None)
        self.check([((0, 2), (1, 1)), ((1, 1), (0, 2)), ((1, 1), (2, 1))], None)

    def test_what_does_not_count(self):
        # A name has to wait for others, and for names that there are.
        self.check([((0, 1), (0, 1))], [(0, 1), (0, 2), (1, 1), (2, 1)])
        self.check([((9, 9), (0, 1)), ((0, 2), (9, 9))], [(0, 1), (0, 2), (1, 1), (2, 1)])

    def test_names_of_other_lengths(self):
        self.check([((1,), (0,))], [(0, 0, 5), (1,), (0,), (1, 0)], [(0,), (1,), (0, 0, 5), (1, 0)])

    def test_against_a_plain_reading(self):
        random = Random(109)
        circles = 0
        for _ in range(500):
            names = [(random.randrange(3), number) for number in range(random.randint(1, 8))]
            pairs = [tuple(random.sample(names, 2)) for _ in range(random.randrange(9))] if len(names) > 1 else []
            left, order = sorted(names), []
            while left:
                free = [name for name in left if not any(first in left for first, second in pairs if second == name)]
                if not free:
                    break
                order.append(free[0])
                left.remove(free[0])
            circles += bool(left)
            random.shuffle(names)
            self.check(pairs, None if left else order, names)
        self.assertTrue(50 < circles < 450, circles)


class AuditCase(unittest.TestCase):
    def check(self, votes, history, order, fault=None, plan=PLAN):
        votes = votes + [[]] * (len(plan.sizes) - len(votes))
        before = ([list(told) for told in votes], list(history))
        self.assertEqual(audit(plan, votes, history), (order, fault))
        self.assertEqual((votes, history), before)
        if order is not None:
            self.assertIsNone(fault_of(history, order))

    def refuse(self, votes, history, *fault, plan=PLAN):
        self.check(votes, history, None, fault, plan)


class Orders(AuditCase):
    def test_nothing(self):
        self.check([], [], [])
        self.check([], [(0, 1, gets("a"), 0, 1, ("busy",)), (1, 1, gets("a"), 2, None, None)], [])

    def test_the_example_of_the_interface(self):
        world = World((1, 1), ((0,), (0,)), (("", 1), ("m", 2)), False)
        self.assertEqual(world.call(0, ((), (("put", "a", 5), ("put", "z", 6))), 0), 1)
        world.calm(40)
        self.assertEqual(audit(world.plan, [tally.votes for tally in world.onlooker.tallies], world.history.rows()),
                         ([(0, 1, BOTH)], None))

    def test_deals_at_one_cell_in_the_order_of_their_accesses(self):
        first, second = deal_of(1, 1, puts(("a", 1))), deal_of(0, 1, puts(("a", 2)))
        history = history_of((0, 1, second[3], 0, 2, ("done", (1,))), (1, 1, first[3], 1, 3, NONE))
        self.check([votes_of(1, first, second)], history, [(1, 1, NONE), (0, 1, ("done", (1,)))])

    def test_deals_that_touch_no_common_key_by_their_names(self):
        votes = [votes_of(1, deal_of(2, 1, puts(("b", 1))), deal_of(0, 1, puts(("a", 1)))),
                 votes_of(2, deal_of(3, 1, puts(("h", 1)))), votes_of(3, deal_of(1, 1, puts(("p", 1))))]
        history = history_of(*[(client, 1, puts((key, 1)), client, 10 + client, NONE)
                               for client, key in enumerate("apbh")])
        self.check(votes, history, [(client, 1, NONE) for client in range(4)])

    def test_deals_that_were_answered_before_others_were_asked(self):
        votes = [votes_of(1, deal_of(1, 1, puts(("b", 1))), deal_of(0, 1, puts(("a", 1))))]
        history = [(1, 1, puts(("b", 1)), 0, 1, NONE), (0, 1, puts(("a", 1)), 2, 3, NONE)]
        self.check(votes, history, [(1, 1, NONE), (0, 1, NONE)])
        self.check(votes, [(1, 1, puts(("b", 1)), 0, 2, NONE), (0, 1, puts(("a", 1)), 1, 3, NONE)],
                   [(0, 1, NONE), (1, 1, NONE)])
        self.check(votes, [(1, 1, puts(("b", 1)), 0, 1, NONE), (0, 1, puts(("a", 1)), 2, None, None)],
                   [(1, 1, NONE), (0, 1, NONE)])
        self.check(votes, [(1, 1, puts(("b", 1)), 0, None, None), (0, 1, puts(("a", 1)), 1, 2, NONE)],
                   [(0, 1, NONE), (1, 1, NONE)])

    def test_a_row_of_deals_one_behind_the_other(self):
        # All keys are different, and the names are against the time.
        many = 12
        keys = ["k" + str(place) for place in range(many)]
        commands = [deal_of(3 - place % 4, 1 + place // 4, puts((key, 1))) for place, key in enumerate(keys)]
        history = [(command[1], command[2], command[3], 2 * place, 2 * place + 1, NONE)
                   for place, command in enumerate(commands)]
        plan = Plan((1,), ((0,),), (("", 1),), False)
        votes = [(slot, 0, (1, 0), ("batch", (("deal", command[1], command[2], command[3], ((key, 1),)),)))
                 for slot, (command, key) in enumerate(zip(commands, keys), 1)]
        self.check([votes], history, [record[:2] + (NONE,) for record in history], plan=plan)

    def test_deals_at_several_cells(self):
        wide, near = puts(("a", 1), ("h", 2)), puts(("h", 3))
        lock, other = lock_of(1, 1, 1, wide, 2), deal_of(0, 1, near)
        history = history_of((0, 1, near, 0, None, None), (1, 1, wide, 1, None, None))
        held = ("tried", (1, (), ((1, None),), (("h", 2),)))
        home = votes_of(1, deal_of(1, 1, wide), ("locked", 1, 1, 2, held))
        self.check([home, votes_of(2, lock, ("end", 1, 1, 1, 1), other)], history,
                   [(1, 1, BOTH), (0, 1, ("done", (2,)))])
        held = ("tried", (1, (), ((1, 3),), (("h", 2),)))
        home = votes_of(1, deal_of(1, 1, wide), ("locked", 1, 1, 2, held))
        self.check([home, votes_of(2, other, lock)], history, [(0, 1, NONE), (1, 1, ("done", (None, 3)))])

    def test_accesses_of_deals_that_were_not_decided_do_not_count(self):
        # Client 2 held the keys of both cells the other way round, but its deals were given up.
        lost = puts(("a", 5), ("h", 5))
        votes = [votes_of(1, deal_of(0, 1, puts(("a", 1))), deal_of(2, 1, lost), ("locked", 2, 1, 2, ("busy",))),
                 votes_of(2, lock_of(1, 2, 1, lost, 2), ("end", 1, 2, 1, 0), deal_of(1, 1, puts(("h", 1))))]
        history = history_of((0, 1, puts(("a", 1)), 0, 4, NONE), (1, 1, puts(("h", 1)), 1, 5, NONE),
                             (2, 1, lost, 2, 3, ("busy",)))
        self.check(votes, history, [(0, 1, NONE), (1, 1, NONE)])

    def test_deals_that_were_not_decided_stand_between_no_others(self):
        # Between the two that were decided, client 2 held their key, and asked and was answered.
        lost = puts(("a", 5), ("h", 5))
        first, second = puts(("a", 1)), puts(("a", 2))
        votes = [votes_of(1, deal_of(1, 1, first), deal_of(2, 1, lost), ("locked", 2, 1, 2, ("busy",)),
                          deal_of(0, 1, second))]
        overlap = history_of((1, 1, first, 0, 4, NONE), (0, 1, second, 1, 5, ("done", (1,))),
                             (2, 1, lost, 2, 3, ("busy",)))
        self.check(votes, overlap, [(1, 1, NONE), (0, 1, ("done", (1,)))])
        votes = [votes_of(1, deal_of(1, 1, puts(("b", 1))), deal_of(0, 1, puts(("a", 1))))]
        history = [(1, 1, puts(("b", 1)), 0, 1, NONE), (2, 1, lost, 2, 3, ("busy",)),
                   (0, 1, puts(("a", 1)), 4, 5, NONE)]
        self.check(votes, history, [(1, 1, NONE), (0, 1, NONE)])

    def test_a_call_that_is_answered_late(self):
        # Client 3 asked first and was answered last; client 2 was answered before client 0 asked.
        votes = [votes_of(1, *[deal_of(client, 1, puts((key, 1))) for client, key in ((3, "a"), (2, "b"), (0, "c"))])]
        history = [(3, 1, puts(("a", 1)), 0, 5, NONE), (2, 1, puts(("b", 1)), 1, 2, NONE),
                   (0, 1, puts(("c", 1)), 3, 4, NONE)]
        self.check(votes, history, [(2, 1, NONE), (0, 1, NONE), (3, 1, NONE)])

    def test_lesser_epochs_at_a_later_cell(self):
        bring = ("take", 3, 1, (("p", "q", 2, (("p", 1),)),))
        votes = [votes_of(1, bring, deal_of(0, 1, puts(("p", 2)), p=1)), [],
                 votes_of(3, deal_of(2, 1, puts(("q", 1))), deal_of(1, 1, puts(("p", 1))), ("give", 1, "p", "q", 1))]
        history = history_of((0, 1, puts(("p", 2)), 0, None, None), (1, 1, puts(("p", 1)), 1, None, None),
                             (2, 1, puts(("q", 1)), 2, None, None))
        self.check(votes, history, [(1, 1, NONE), (0, 1, ("done", (1,))), (2, 1, NONE)])

    def test_epochs_come_before_places(self):
        # The third cell had the key later, though it stands first in its trace.
        bring = ("take", 1, 1, (("a", "b", 2, (("a", 1),)),))
        votes = [votes_of(1, deal_of(2, 1, puts(("c", 1))), deal_of(1, 1, puts(("a", 1))), ("give", 1, "a", "b", 3)),
                 [], votes_of(3, bring, deal_of(0, 1, puts(("a", 2)), a=3))]
        history = history_of((0, 1, puts(("a", 2)), 0, None, None), (1, 1, puts(("a", 1)), 1, None, None),
                             (2, 1, puts(("c", 1)), 2, None, None))
        self.check(votes, history, [(1, 1, NONE), (0, 1, ("done", (1,))), (2, 1, NONE)])

    def test_votes_in_any_order(self):
        for seed in range(30):
            walk = Walk(Random(seed), kind=False)
            for _ in range(200):
                walk.step({"deliver": 30, "call": 8, "calm": 2, "tick": 3, "sync": 5, "give": 1})
            votes = [list(tally.votes) for tally in walk.world.onlooker.tallies]
            history = walk.world.history.rows()
            told = audit(walk.world.plan, votes, history)
            self.assertIsNone(told[1])
            for one in votes:
                walk.random.shuffle(one)
            self.assertEqual(audit(walk.world.plan, votes, history), told)

    def test_lists_that_are_returned_are_new(self):
        votes = [votes_of(1, deal_of(0, 1, puts(("a", 1)))), [], []]
        history = [(0, 1, puts(("a", 1)), 0, 1, NONE)]
        audit(PLAN, votes, history)[0].clear()
        self.check(votes, history, [(0, 1, NONE)])


class Faults(AuditCase):
    bad = [(1, 0, (1, 0), ("batch", (("x",),))), (1, 1, (1, 0), ("batch", (("y",),)))]
    deal = deal_of(0, 1, puts(("a", 1)))
    there = deal_of(0, 1, puts(("p", 1)))
    record = (0, 1, puts(("a", 1)), 0, 1, NONE)

    # Each of two deals came to a key of one cell ahead of the other one.
    wide = puts(("a", 1), ("h", 1))
    crossed = [
        votes_of(1, deal_of(0, 1, wide), ("locked", 0, 1, 2, HELD), deal_of(1, 1, wide), ("locked", 1, 1, 2, HELD)),
        votes_of(2, lock_of(1, 1, 1, wide, 2), ("end", 1, 1, 1, 1), lock_of(1, 0, 1, wide, 2)),
    ]

    def test_unlawful(self):
        self.refuse([[], self.bad], [], "unlawful", 2, 1)
        good = votes_of(2, deal_of(0, 1, puts(("h", 1))))
        self.refuse([[], good + [(2,) + vote[1:] for vote in self.bad]], [], "unlawful", 2, 2)
        self.check([[], good + [(3,) + vote[1:] for vote in self.bad]], [(0, 1, puts(("h", 1)), 0, 1, NONE)],
                   [(0, 1, NONE)])

    def test_unlawful_in_the_first_cell_that_is_so(self):
        plan = Plan((3, 3, 3), ((0, 1, 2),) * 3, PLAN.ranges, False)
        self.refuse([[], self.bad, self.bad], [], "unlawful", 2, 1, plan=plan)
        later = votes_of(2, self.deal) + [(2,) + vote[1:] for vote in self.bad]
        self.refuse([later, self.bad], [], "unlawful", 1, 2, plan=plan)

    def test_twice(self):
        self.refuse([votes_of(1, self.deal), [], votes_of(3, self.there)], [self.record], "twice", 0, 1)

    def test_twice_in_the_order_of_cells_and_of_deciding(self):
        names = [(0, 1), (1, 1), (2, 1)]
        first = [deal_of(client, number, puts(("a", 1))) for client, number in names]
        third = [deal_of(client, number, puts(("p", 1))) for client, number in names]
        for mine, theirs, name in (((0, 1), (1, 0), (0, 1)), ((1, 0), (0, 1), (1, 1)), ((0, 1, 2), (2, 1), (1, 1)),
                                   ((2, 1), (0, 1, 2), (2, 1))):
            votes = [votes_of(1, *[first[place] for place in mine]), [],
                     votes_of(3, *[third[place] for place in theirs])]
            self.refuse(votes, [], "twice", *name)

    def test_not_twice(self):
        # Decided at one cell, and refused, held or ended at others.
        moved = deal_of(0, 1, puts(("a", 1)), a=3)
        self.check([votes_of(1, self.deal, self.deal), [], votes_of(3, moved)], [self.record], [(0, 1, NONE)])

    def test_circle(self):
        history = history_of((0, 1, self.wide, 0, 2, BOTH), (1, 1, self.wide, 1, 3, BOTH))
        self.refuse(self.crossed, history, "circle")
        self.refuse(self.crossed, [], "circle")

    def test_a_circle_with_the_time(self):
        votes = [votes_of(1, self.deal, deal_of(1, 1, gets("a")))]
        history = [(1, 1, gets("a"), 0, 1, ("done", (1,))), (0, 1, puts(("a", 1)), 2, 3, NONE)]
        self.refuse(votes, history, "circle")
        history = [(1, 1, gets("a"), 0, 2, ("done", (1,))), (0, 1, puts(("a", 1)), 1, 3, NONE)]
        self.check(votes, history, [(0, 1, NONE), (1, 1, ("done", (1,)))])

    def test_a_circle_over_others_in_time(self):
        # 3 was answered before 1 was asked, and 1 before 0 was asked; at the key, 0 came ahead of 3.
        votes = [votes_of(1, self.deal, deal_of(3, 1, gets("a")), deal_of(1, 1, gets("b")))]
        history = [(3, 1, gets("a"), 0, 1, ("done", (1,))), (1, 1, gets("b"), 2, 3, NONE),
                   (0, 1, puts(("a", 1)), 4, 5, NONE)]
        self.refuse(votes, history, "circle")

    def test_faults_of_the_order(self):
        votes = [votes_of(1, self.deal)]
        self.refuse(votes, [], "unknown", 0)
        self.refuse(votes, [(1, 1) + self.record[2:]], "unknown", 0)
        self.refuse(votes, [(0, 1, gets("a", "b"), 0, 1, BOTH)], "wrong", 0)
        self.refuse(votes, [self.record[:5] + (("done", (5,)),)], "other", 0)
        self.refuse(votes, [self.record[:5] + (("busy",),)], "other", 0)
        self.refuse(votes, [self.record, (1, 1, gets("a"), 2, 3, ("done", (1,)))], "missing", 1)
        self.refuse([], [self.record], "missing", 0)
        self.refuse([[]], [(2, 1, gets("a"), 0, 1, ("busy",)), (1, 1, gets("a"), 2, 3, ("unheld", ()))], "missing", 1)

    def test_several_at_once(self):
        twice = [votes_of(1, self.deal), self.bad, votes_of(3, self.there)]
        self.refuse(twice, [], "unlawful", 2, 1)
        crossed = self.crossed + [votes_of(3, deal_of(2, 1, puts(("p", 1))))]
        crossed[0] = crossed[0] + [(5, 0, (1, 0), ("batch", (deal_of(2, 1, puts(("b", 1))),)))]
        self.refuse(crossed, [], "twice", 2, 1)
        self.refuse(self.crossed, [self.record, (3, 1, gets("a"), 5, 6, NONE)], "circle")
        self.refuse([votes_of(1, self.deal)], [(3, 1, gets("a"), 5, 6, NONE)], "unknown", 0)

    def test_votes_of_a_world_that_were_changed(self):
        world = World(*TWO_CELLS)
        for client in range(3):
            world.call(client, ((), (("add", "a", 1), ("add", "z", 1))), 0)
            world.calm(40)
        votes = [list(tally.votes) for tally in world.onlooker.tallies]
        history = world.history.rows()
        order = [(client, 1, ("done", (client + 1, client + 1))) for client in range(3)]
        self.assertEqual(audit(world.plan, votes, history), (order, None))
        self.assertEqual(audit(world.plan, [votes[0][:-4], votes[1]], history)[1][0], "missing")
        self.assertEqual(audit(world.plan, [[], []], history), (None, ("missing", 0)))
        self.assertEqual(audit(world.plan, votes, history[:2]), (None, ("unknown", 2)))
        self.assertEqual(audit(world.plan, votes, [history[0][:5] + (("done", (1, 2)),)] + history[1:]),
                         (None, ("other", 0)))
        swapped = [history[1][:2] + history[0][2:], history[0][:2] + history[1][2:], history[2]]
        self.assertEqual(audit(world.plan, votes, swapped), (None, ("circle",)))


if __name__ == "__main__":
    unittest.main()
