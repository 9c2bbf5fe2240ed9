"""Points [58] to [68] and [72] to [74]: deals at their home and at other cells, and what is said of them."""

import unittest

from crosskeep.keeper.keeper import Keeper
from keepers import KeeperCase, RANGES, answer, deal_of, dump, gets, lock_of, new_keeper, puts, seen, verdict

BEGIN = {
    "orders": [], "answers": {}, "verdicts": {}, "writes": {}, "rows": [], "locks": [], "holds": [], "homes": [],
    "leaving": [], "took": [], "refused": [], "decided": [],
    "pieces": [("", "h", "own", 1, 1), ("h", "p", "away", 1, 2), ("p", None, "away", 1, 3)],
}
WIDE = ((("a", None),), (("put", "a", 1), ("put", "h", 2), ("put", "p", 3), ("add", "h", 5)))
AWAY = ((("h", None), ("p", None)), (("put", "p", 3),))
TRIED = ("tried", (1, (), ((1, None), (3, 7)), (("h", 7),)))
LAST = ("tried", (1, (), ((2, None),), (("p", 3),)))


class AtFirst(KeeperCase):
    def test_all_is_empty(self):
        self.assertEqual(seen(Keeper(1, RANGES)), BEGIN)

    def test_pieces_of_each_cell(self):
        for cell in (1, 2, 3, 4):
            states = [row[2] for row in Keeper(cell, RANGES).piece_rows()]
            self.assertEqual(states, ["own" if other == cell else "away" for other in (1, 2, 3)])

    def test_example_of_the_document(self):
        keeper = Keeper(1, (("", 1), ("m", 2)))
        self.assertEqual(keeper.apply(("deal", 0, 1, ((), (("put", "a", 5),)), (("a", 1),))),
                         [("client", 0, ("answer", 1, ("done", (None,))))])
        self.assertEqual(keeper.key_rows(), [("a", 5)])
        deal = ((("a", 5),), (("del", "a"), ("put", "z", 6)))
        letters = keeper.apply(("deal", 0, 2, deal, (("a", 1), ("z", 2))))
        self.assertEqual((letters[0][:2], letters[0][2][0]), (("cell", 2), "lock"))
        self.assertEqual((keeper.lock_rows(), keeper.key_rows()), ([("a", 0, 2)], [("a", 5)]))
        other = Keeper(2, (("", 1), ("m", 2)))
        told = other.apply(letters[0][2])
        self.assertEqual((told[0][:2], told[0][2][0]), (("cell", 1), "locked"))
        self.assertEqual([letter[2][0] for letter in keeper.apply(told[0][2])], ["answer", "end"])
        self.assertEqual(keeper.decided_rows(), [(0, 1, ("done", (None,))), (0, 2, ("done", (5, None)))])
        self.assertEqual(keeper.piece_rows(), [("", "m", "own", 1, 1), ("m", None, "away", 1, 2)])

    def test_what_is_not_known(self):
        for command in (("locked", 0, 1, 2, TRIED), ("locked", 0, 1, 2, ("busy",)), ("ended", 0, 1, 2), ("taken", 1)):
            self.check_settled(Keeper(1, RANGES), command)


class AtOneCell(KeeperCase):
    def test_done(self):
        keeper = new_keeper()
        deal = ((("a", None),), (("put", "a", 5), ("add", "b", 2), ("get", "a"), ("del", "a")))
        told = ("done", (None, 2, 5, 5))
        self.do(keeper, deal_of(0, 1, deal), [answer(0, 1, told)])
        self.assertEqual(seen(keeper), {**BEGIN, "rows": [("b", 2)], "answers": {(0, 1): told},
                                        "decided": [(0, 1, told)]})

    def test_unheld(self):
        keeper = new_keeper(a=4)
        before = seen(keeper)
        told = ("unheld", (4, None))
        self.do(keeper, deal_of(0, 1, ((("a", 4), ("b", 1)), (("put", "a", 5),))), [answer(0, 1, told)])
        self.assertEqual(seen(keeper), {**before, "answers": {**before["answers"], (0, 1): told},
                                        "decided": before["decided"] + [(0, 1, told)]})

    def test_again(self):
        keeper = new_keeper()
        command = deal_of(0, 2, ((), (("add", "a", 1),)))
        self.do(keeper, command, [answer(0, 2, ("done", (1,)))])
        self.check_settled(keeper, command, [answer(0, 2, ("done", (1,)))])
        self.check_settled(keeper, deal_of(0, 1, puts(("b", 1))))
        self.assertEqual((keeper.answer_of(0, 1), keeper.answer_of(0, 2), keeper.answer_of(0, 3)),
                         (None, ("done", (1,)), None))

    def test_the_next_number(self):
        keeper = new_keeper()
        keeper.apply(deal_of(0, 1, puts(("a", 1))))
        self.do(keeper, deal_of(0, 5, puts(("a", 2))), [answer(0, 5, ("done", (1,)))])
        for number in (1, 4):
            self.check_settled(keeper, deal_of(0, number, puts(("a", 3))))
        self.assertEqual(seen(keeper)["answers"], {(0, 5): ("done", (1,))})

    def test_clients_are_apart(self):
        keeper = new_keeper()
        keeper.apply(deal_of(0, 5, puts(("a", 1))))
        self.do(keeper, deal_of(1, 1, puts(("a", 2))), [answer(1, 1, ("done", (1,)))])
        self.assertEqual(keeper.decided_rows(), [(0, 5, ("done", (None,))), (1, 1, ("done", (1,)))])

    def test_checks_and_deeds_without_the_others(self):
        keeper = new_keeper(a="x")
        self.do(keeper, deal_of(0, 1, ((("a", "x"),), ())), [answer(0, 1, ("done", ()))])
        self.do(keeper, deal_of(0, 2, ((("a", "y"),), ())), [answer(0, 2, ("unheld", ("x",)))])


class RefusedAtHome(KeeperCase):
    def test_moved(self):
        keeper = new_keeper(a=1)
        before = seen(keeper)
        told = ("moved", (("h", "p", 2, 1),))
        deal = ((("h", 1),), (("put", "a", 2), ("get", "i")))
        self.do(keeper, deal_of(0, 1, deal, h=1, i=1), [answer(0, 1, told)])
        self.assertEqual(seen(keeper), {**before, "answers": {**before["answers"], (0, 1): told}})
        self.check_settled(keeper, deal_of(0, 1, deal, h=1, i=1), [answer(0, 1, told)])

    def test_hints_ascend_each_once(self):
        keeper = new_keeper()
        deal = ((("z", None), ("h", None)), (("get", "p"), ("get", "a"), ("get", "i"), ("get", "ozz")))
        told = ("moved", (("h", "p", 2, 1), ("p", None, 3, 1)))
        self.do(keeper, deal_of(0, 1, deal, z=1, h=1, p=1, i=1, ozz=1), [answer(0, 1, told)])

    def test_only_the_own_part_is_looked_at(self):
        keeper = new_keeper()
        told = ("moved", (("p", None, 3, 1),))
        self.do(keeper, deal_of(0, 1, gets("h", "p"), p=1), [answer(0, 1, told)])
        self.assertEqual(seen(keeper)["homes"], [])

    def test_busy(self):
        keeper = new_keeper()
        keeper.apply(deal_of(0, 1, puts(("a", 1), ("h", 1))))
        before = seen(keeper)
        for number, deal in enumerate((gets("a"), gets("b", "a"), ((("a", 5),), ()), gets("a", "h")), 1):
            self.do(keeper, deal_of(1, number, deal), [answer(1, number, ("busy",))])
            self.assertEqual(seen(keeper), {**before, "answers": {(1, number): ("busy",)}})
        self.do(keeper, deal_of(1, 5, gets("b")), [answer(1, 5, ("done", (None,)))])

    def test_moved_comes_ahead_of_busy(self):
        keeper = new_keeper()
        keeper.apply(deal_of(0, 1, puts(("a", 1), ("h", 1))))
        self.do(keeper, deal_of(1, 1, gets("a", "h"), h=1), [answer(1, 1, ("moved", (("h", "p", 2, 1),)))])

    def test_is_no_refusal_of_the_client(self):
        keeper = new_keeper()
        keeper.apply(deal_of(0, 1, gets("h"), h=1))
        self.assertIsNone(keeper.verdict_of(0, 1))
        self.do(keeper, lock_of(2, 0, 1, gets("a"), 1), [verdict(2, 0, 1, 1, ("tried", (1, (), ((0, None),), ())))])

    def test_of_several_cells_begins_nowhere(self):
        keeper = new_keeper()
        keeper.apply(deal_of(0, 1, puts(("a", 1), ("h", 1))))
        before = seen(keeper)
        self.do(keeper, deal_of(1, 1, WIDE), [answer(1, 1, ("busy",))])
        self.assertEqual(seen(keeper), {**before, "answers": {(1, 1): ("busy",)}})


class AtSeveralCells(KeeperCase):
    def begun(self):
        keeper = new_keeper(b=9)
        self.locks = [("cell", cell, lock_of(1, 0, 1, WIDE, cell)) for cell in (2, 3)]
        self.do(keeper, deal_of(0, 1, WIDE), self.locks)
        return keeper

    def test_begins(self):
        keeper = self.begun()
        self.assertEqual(seen(keeper), {
            **seen(new_keeper(b=9)), "orders": self.locks, "locks": [("a", 0, 1)], "holds": [(0, 1, 1)],
            "homes": [(0, 1, None, ())], "writes": {(0, 1): (("a", 1),)},
            "verdicts": {(0, 1): ("tried", (1, ((0, None),), ((0, None),), (("a", 1),)))},
        })
        self.assertEqual(self.locks[0][2], ("lock", 1, 0, 1, ((), ((1, ("put", "h", 2)), (3, ("add", "h", 5))))))
        self.check_settled(keeper, deal_of(0, 1, WIDE))

    def test_begins_without_an_own_part(self):
        keeper = new_keeper()
        locks = [("cell", cell, lock_of(1, 0, 1, AWAY, cell)) for cell in (2, 3)]
        self.do(keeper, deal_of(0, 1, AWAY), locks)
        self.assertEqual(seen(keeper), {**BEGIN, "orders": locks, "homes": [(0, 1, None, ())]})

    def test_one_verdict_is_kept(self):
        keeper = self.begun()
        before = seen(keeper)
        self.do(keeper, ("locked", 0, 1, 3, LAST))
        self.assertEqual(seen(keeper), {**before, "orders": self.locks[:1]})

    def test_done(self):
        keeper = self.begun()
        keeper.apply(("locked", 0, 1, 3, LAST))
        told = ("done", (None, None, None, 7))
        ends = [("cell", cell, ("end", 1, 0, 1, 1)) for cell in (2, 3)]
        self.do(keeper, ("locked", 0, 1, 2, TRIED), [answer(0, 1, told)] + ends)
        first = seen(new_keeper(b=9))
        self.assertEqual(seen(keeper), {
            **first, "orders": ends, "homes": [(0, 1, told, (2, 3))], "rows": [("a", 1), ("b", 9)],
            "answers": {**first["answers"], (0, 1): told}, "decided": first["decided"] + [(0, 1, told)],
        })
        self.check_settled(keeper, deal_of(0, 1, WIDE), [answer(0, 1, told)])

    def test_verdicts_in_any_order(self):
        for order in ((2, 3), (3, 2)):
            keeper = self.begun()
            for cell in order:
                letters = keeper.apply(("locked", 0, 1, cell, {2: TRIED, 3: LAST}[cell]))
            self.assertEqual([letter[:2] for letter in letters], [("client", 0), ("cell", 2), ("cell", 3)])
            self.assertEqual(keeper.answer_of(0, 1), ("done", (None, None, None, 7)))

    def test_done_without_an_own_part(self):
        keeper = new_keeper()
        keeper.apply(deal_of(0, 1, AWAY))
        keeper.apply(("locked", 0, 1, 2, ("tried", (1, ((0, None),), (), ()))))
        told = ("done", (None,))
        letters = [answer(0, 1, told)] + [("cell", cell, ("end", 1, 0, 1, 1)) for cell in (2, 3)]
        self.do(keeper, ("locked", 0, 1, 3, ("tried", (1, ((1, None),), ((0, None),), (("p", 3),)))), letters)
        self.assertEqual(keeper.key_rows(), [])
        # No part was ended here, so a part of this number may still come from elsewhere.
        self.assertIs(keeper.settled(lock_of(2, 0, 1, gets("a"), 1)), False)

    def test_unheld_here(self):
        keeper = new_keeper(a=5)
        keeper.apply(deal_of(0, 1, WIDE))
        self.assertEqual(keeper.writes_of(0, 1), ())
        self.assertEqual(keeper.hold_rows(), [(0, 1, 1)])
        keeper.apply(("locked", 0, 1, 2, TRIED))
        ends = [("cell", cell, ("end", 1, 0, 1, 0)) for cell in (2, 3)]
        self.do(keeper, ("locked", 0, 1, 3, LAST), [answer(0, 1, ("unheld", (5,)))] + ends)
        self.assertEqual((keeper.key_rows(), keeper.lock_rows(), keeper.hold_rows()), ([("a", 5)], [], []))
        self.assertEqual(keeper.decided_rows()[1:], [(0, 1, ("unheld", (5,)))])

    def test_unheld_elsewhere(self):
        keeper = new_keeper(b=9)
        deal = ((("p", 1), ("a", None), ("h", 2)), (("put", "a", 1),))
        keeper.apply(deal_of(0, 1, deal))
        keeper.apply(("locked", 0, 1, 3, ("tried", (0, ((0, None),), (), ()))))
        letters = keeper.apply(("locked", 0, 1, 2, ("tried", (1, ((2, 2),), (), ()))))
        self.assertEqual(letters, [answer(0, 1, ("unheld", (None, None, 2)))]
                         + [("cell", cell, ("end", 1, 0, 1, 0)) for cell in (2, 3)])
        self.assertEqual((keeper.key_rows(), keeper.lock_rows()), ([("b", 9)], []))

    def test_refused_by_the_first(self):
        for told in (("busy",), ("moved", (("h", "m", 3, 4),))):
            keeper = self.begun()
            letters = [answer(0, 1, told), ("cell", 3, ("end", 1, 0, 1, 0))]
            self.do(keeper, ("locked", 0, 1, 2, told), letters)
            first = seen(new_keeper(b=9))
            self.assertEqual(seen(keeper), {**first, "orders": letters[1:], "homes": [(0, 1, told, (3,))],
                                            "answers": {**first["answers"], (0, 1): told}})
            self.check_settled(keeper, ("locked", 0, 1, 3, LAST))
            self.check_settled(keeper, ("ended", 0, 1, 2))

    def test_refused_by_the_last(self):
        keeper = self.begun()
        keeper.apply(("locked", 0, 1, 2, TRIED))
        letters = [answer(0, 1, ("busy",)), ("cell", 2, ("end", 1, 0, 1, 0))]
        self.do(keeper, ("locked", 0, 1, 3, ("busy",)), letters)
        self.assertEqual(keeper.home_rows(), [(0, 1, ("busy",), (2,))])

    def test_refused_by_the_only_one(self):
        keeper = new_keeper()
        keeper.apply(deal_of(0, 1, puts(("a", 1), ("p", 1))))
        self.do(keeper, ("locked", 0, 1, 3, ("busy",)), [answer(0, 1, ("busy",))])
        self.assertEqual(seen(keeper), {**BEGIN, "answers": {(0, 1): ("busy",)}})

    def test_the_own_part_is_ended(self):
        keeper = self.begun()
        lock = lock_of(2, 0, 1, gets("a"), 1)
        keeper.apply(("locked", 0, 1, 2, ("busy",)))
        self.check_settled(keeper, lock)
        self.assertIs(keeper.settled(lock_of(2, 0, 2, gets("a"), 1)), False)

    def test_verdicts_that_do_not_count(self):
        keeper = self.begun()
        keeper.apply(("locked", 0, 1, 2, TRIED))
        for command in (("locked", 0, 1, 2, TRIED), ("locked", 0, 1, 2, ("busy",)), ("locked", 0, 1, 1, LAST),
                        ("locked", 0, 1, 4, LAST), ("locked", 0, 2, 3, LAST), ("locked", 1, 1, 3, ("busy",))):
            self.check_settled(keeper, command)

    def test_ends_ahead_of_the_outcome_do_not_count(self):
        keeper = self.begun()
        for cell in (1, 2, 3):
            self.check_settled(keeper, ("ended", 0, 1, cell))

    def test_news_of_ends(self):
        keeper = self.begun()
        for cell, told in ((2, TRIED), (3, LAST)):
            keeper.apply(("locked", 0, 1, cell, told))
        for command in (("ended", 0, 1, 1), ("ended", 0, 2, 3), ("ended", 1, 1, 3), ("ended", 0, 1, 4)):
            self.check_settled(keeper, command)
        self.do(keeper, ("ended", 0, 1, 3))
        self.assertEqual(keeper.home_rows(), [(0, 1, ("done", (None, None, None, 7)), (2,))])
        self.assertEqual(keeper.orders(), [("cell", 2, ("end", 1, 0, 1, 1))])
        self.check_settled(keeper, ("ended", 0, 1, 3))
        self.do(keeper, ("ended", 0, 1, 2))
        self.assertEqual((keeper.home_rows(), keeper.orders()), ([], []))
        self.check_settled(keeper, ("ended", 0, 1, 2))
        self.check_settled(keeper, ("locked", 0, 1, 2, TRIED))
        self.check_settled(keeper, deal_of(0, 1, WIDE), [answer(0, 1, ("done", (None, None, None, 7)))])

    def test_an_outcome_behind_the_next_number(self):
        keeper = self.begun()
        keeper.apply(deal_of(0, 2, gets("b")))
        keeper.apply(("locked", 0, 1, 3, LAST))
        letters = keeper.apply(("locked", 0, 1, 2, TRIED))
        self.assertEqual(letters[0], answer(0, 1, ("done", (None, None, None, 7))))
        self.assertEqual((keeper.answer_of(0, 1), keeper.answer_of(0, 2)), (None, ("done", (9,))))
        self.assertEqual([row[:2] for row in keeper.decided_rows()], [(3, 1), (0, 2), (0, 1)])

    def test_several_home_deals_of_one_client(self):
        keeper = self.begun()
        deal = puts(("c", 1), ("h", 1))
        self.do(keeper, deal_of(0, 2, deal), [("cell", 2, lock_of(1, 0, 2, deal, 2))])
        self.assertEqual(keeper.home_rows(), [(0, 1, None, ()), (0, 2, None, ())])
        self.assertEqual(keeper.lock_rows(), [("a", 0, 1), ("c", 0, 2)])
        keeper.apply(("locked", 0, 2, 2, ("tried", (1, (), ((1, None),), (("h", 1),)))))
        self.assertEqual((keeper.lock_rows(), keeper.hold_rows()), ([("a", 0, 1)], [(0, 1, 1)]))
        self.assertEqual([keeper.apply(("locked", 0, 1, cell, told))[:1] for cell, told in ((2, TRIED), (3, LAST))],
                         [[], [answer(0, 1, ("done", (None, None, None, 7)))]])
        self.assertEqual(keeper.key_rows(), [("a", 1), ("b", 9), ("c", 1)])


class Locks(KeeperCase):
    deal = ((("a", 1), ("h", 0)), (("put", "b", 2), ("get", "h"), ("del", "a")))
    tried = ("tried", (1, ((0, 1),), ((0, None), (2, 1)), (("a", None), ("b", 2))))

    def held(self):
        keeper = new_keeper(a=1)
        self.do(keeper, lock_of(2, 0, 4, self.deal, 1), [verdict(2, 0, 4, 1, self.tried)])
        return keeper

    def test_tried(self):
        keeper = self.held()
        self.assertEqual(seen(keeper), {
            **seen(new_keeper(a=1)), "locks": [("a", 0, 4), ("b", 0, 4)], "holds": [(0, 4, 2)],
            "verdicts": {(0, 4): self.tried}, "writes": {(0, 4): (("a", None), ("b", 2))},
        })

    def test_again(self):
        keeper = self.held()
        self.check_settled(keeper, lock_of(2, 0, 4, self.deal, 1), [verdict(2, 0, 4, 1, self.tried)])

    def test_a_part_that_does_not_hold_is_held_too(self):
        keeper = new_keeper(a=2)
        tried = ("tried", (0, ((0, 2),), (), ()))
        self.do(keeper, lock_of(2, 0, 4, self.deal, 1), [verdict(2, 0, 4, 1, tried)])
        self.assertEqual(keeper.lock_rows(), [("a", 0, 4), ("b", 0, 4)])
        self.assertEqual((keeper.writes_of(0, 4), keeper.verdict_of(0, 4)), ((), tried))

    def test_busy(self):
        keeper = self.held()
        before = seen(keeper)
        lock = lock_of(3, 1, 2, gets("b", "c"), 1)
        self.do(keeper, lock, [verdict(3, 1, 2, 1, ("busy",))])
        self.assertEqual(seen(keeper), {**before, "verdicts": {**before["verdicts"], (1, 2): ("busy",)}})
        keeper.apply(("end", 2, 0, 4, 1))
        self.check_settled(keeper, lock, [verdict(3, 1, 2, 1, ("busy",))])
        for number in (1, 2):
            self.check_settled(keeper, lock_of(3, 1, number, gets("g"), 1),
                               [verdict(3, 1, 2, 1, ("busy",))] if number == 2 else [])
        self.do(keeper, lock_of(3, 1, 3, gets("b", "c"), 1), [
            verdict(3, 1, 3, 1, ("tried", (1, (), ((0, 2), (1, None)), ())))])

    def test_moved(self):
        keeper = self.held()
        part = ((), ((0, ("get", "a")), (1, ("get", "q")), (3, ("get", "i")), (4, ("get", "z"))))
        told = ("moved", (("h", "p", 2, 1), ("p", None, 3, 1)))
        self.do(keeper, ("lock", 3, 1, 2, part), [verdict(3, 1, 2, 1, told)])
        self.assertEqual((keeper.verdict_of(1, 2), keeper.lock_rows()), (told, [("a", 0, 4), ("b", 0, 4)]))

    def test_one_refusal_of_a_client_is_known(self):
        keeper = self.held()
        first, second = (lock_of(3, 1, number, gets("a"), 1) for number in (2, 5))
        keeper.apply(first)
        self.do(keeper, second, [verdict(3, 1, 5, 1, ("busy",))])
        self.assertEqual((keeper.verdict_of(1, 2), keeper.verdict_of(1, 5)), (None, ("busy",)))
        self.check_settled(keeper, first)
        self.check_settled(keeper, lock_of(3, 1, 4, gets("c"), 1))

    def test_the_refusal_of_another_client_stays(self):
        keeper = self.held()
        for client in (1, 2):
            keeper.apply(lock_of(3, client, 2, gets("a"), 1))
        self.assertEqual((keeper.verdict_of(1, 2), keeper.verdict_of(2, 2)), (("busy",), ("busy",)))

    def test_behind_the_end(self):
        keeper = self.held()
        keeper.apply(("end", 2, 0, 4, 0))
        for number in (1, 3, 4):
            self.check_settled(keeper, lock_of(2, 0, number, self.deal, 1))

    def test_a_refusal_outlasts_a_later_end(self):
        keeper = self.held()
        lock = lock_of(3, 1, 2, gets("a"), 1)
        keeper.apply(lock)
        keeper.apply(("end", 3, 1, 6, 0))
        self.check_settled(keeper, lock, [verdict(3, 1, 2, 1, ("busy",))])


class Ends(KeeperCase):
    def held(self, *numbers):
        keeper = new_keeper(a=1)
        for number, key in zip(numbers, "abcd"):
            keeper.apply(lock_of(2, 0, number, puts((key, number), ("h", 1)), 1))
        return keeper

    def ended(self, number, cell=1):
        return ("cell", 2, ("ended", 0, number, cell))

    def test_done(self):
        keeper = self.held(4)
        self.do(keeper, ("end", 2, 0, 4, 1), [self.ended(4)])
        self.assertEqual(seen(keeper), {**seen(new_keeper(a=1)), "rows": [("a", 4)]})
        self.check_settled(keeper, ("end", 2, 0, 4, 1), [self.ended(4)])

    def test_not_done(self):
        keeper = self.held(4)
        self.do(keeper, ("end", 2, 0, 4, 0), [self.ended(4)])
        self.assertEqual(seen(keeper), seen(new_keeper(a=1)))

    def test_of_nothing_that_is_held(self):
        keeper = new_keeper(a=1)
        before = seen(keeper)
        self.do(keeper, ("end", 2, 0, 4, 1), [self.ended(4)])
        self.assertEqual(seen(keeper), before)
        for number in (1, 3, 4):
            self.check_settled(keeper, ("end", 2, 0, number, 1), [self.ended(number)])
            self.check_settled(keeper, lock_of(2, 0, number, gets("a"), 1))
        self.assertIs(keeper.settled(lock_of(2, 0, 5, gets("a"), 1)), False)
        self.assertIs(keeper.settled(lock_of(2, 1, 4, gets("a"), 1)), False)

    def test_of_an_earlier_deal_that_is_held(self):
        keeper = self.held(2, 4)
        self.do(keeper, ("end", 2, 0, 4, 1), [self.ended(4)])
        self.assertEqual(keeper.hold_rows(), [(0, 2, 2)])
        self.do(keeper, ("end", 2, 0, 2, 1), [self.ended(2)])
        self.assertEqual(keeper.key_rows(), [("a", 2), ("b", 4)])
        for number in (3, 4):
            self.check_settled(keeper, lock_of(2, 0, number, gets("c"), 1))

    def test_other_locks_stay(self):
        keeper = self.held(2, 4)
        keeper.apply(lock_of(3, 1, 4, gets("c"), 1))
        keeper.apply(("end", 2, 0, 4, 0))
        self.assertEqual(keeper.lock_rows(), [("a", 0, 2), ("c", 1, 4)])
        self.assertEqual(keeper.hold_rows(), [(0, 2, 2), (1, 4, 3)])

    def test_of_a_refused_deal(self):
        keeper = self.held(2)
        keeper.apply(lock_of(3, 1, 4, gets("a"), 1))
        self.check_settled(keeper, ("end", 3, 1, 4, 0), [("cell", 3, ("ended", 1, 4, 1))])
        self.assertEqual(keeper.verdict_of(1, 4), ("busy",))


class Orders(KeeperCase):
    def test_of_home_deals(self):
        keeper = new_keeper()
        deals = {(2, 1): AWAY, (0, 4): puts(("b", 1), ("p", 1)), (0, 3): WIDE,
                 (1, 1): puts(("c", 1), ("h", 1), ("q", 1))}
        for number in (3, 4):
            keeper.apply(deal_of(0, number, deals[(0, number)]))
        for client in (2, 1):
            keeper.apply(deal_of(client, 1, deals[(client, 1)]))
        keeper.apply(("locked", 1, 1, 2, ("busy",)))
        keeper.apply(("locked", 2, 1, 3, ("tried", (1, ((1, None),), ((0, None),), (("p", 3),)))))
        self.assertEqual(keeper.orders(), [
            ("cell", 2, lock_of(1, 0, 3, WIDE, 2)), ("cell", 3, lock_of(1, 0, 3, WIDE, 3)),
            ("cell", 3, lock_of(1, 0, 4, deals[(0, 4)], 3)),
            ("cell", 3, ("end", 1, 1, 1, 0)),
            ("cell", 2, lock_of(1, 2, 1, AWAY, 2)),
        ])
        self.assertEqual([row[:2] for row in keeper.home_rows()], [(0, 3), (0, 4), (1, 1), (2, 1)])

    def test_asking_changes_nothing(self):
        keeper = new_keeper(a=1)
        keeper.apply(deal_of(0, 1, WIDE))
        keeper.apply(("give", 1, "b", "c", 2))
        before = dump(keeper)
        seen(keeper)
        self.assertEqual(dump(keeper), before)

    def test_home_deals_ahead_of_movers(self):
        keeper = new_keeper()
        for mover, bound in ((7, "b"), (5, "c"), (6, "d")):
            keeper.apply(("give", mover, bound, bound + "z", 2))
        keeper.apply(deal_of(0, 1, AWAY))
        words = [(letter[1], letter[2][0], letter[2][2]) for letter in keeper.orders()]
        self.assertEqual(words, [(2, "lock", 0), (3, "lock", 0), (2, "take", 5), (2, "take", 6), (2, "take", 7)])


class Lists(KeeperCase):
    def test_lists_that_are_returned_are_new(self):
        keeper = new_keeper(a=1)
        keeper.apply(deal_of(0, 1, WIDE))
        keeper.apply(deal_of(1, 1, ((), (("put", "c", 1), ("put", "q", 3)))))
        keeper.apply(("give", 1, "b", "c", 2))
        before = dump(keeper)
        for told in (keeper.orders(), keeper.piece_rows(), keeper.key_rows(), keeper.lock_rows(), keeper.hold_rows(),
                     keeper.home_rows(), keeper.leaving_rows(), keeper.decided_rows(),
                     keeper.apply(lock_of(2, 1, 1, gets("c"), 1))):
            self.assertTrue(told)
            told.append("more")
            told[0] = None
        self.assertEqual(dump(keeper), before)

    def test_keepers_are_apart(self):
        first, second = Keeper(1, RANGES), Keeper(1, RANGES)
        first.apply(deal_of(0, 1, WIDE))
        first.apply(("give", 1, "b", "c", 2))
        self.assertEqual(seen(second), BEGIN)


if __name__ == "__main__":
    unittest.main()
