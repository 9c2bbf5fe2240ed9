"""Points [69] to [74]: ranges that are handed over."""

import unittest

from keepers import KeeperCase, answer, deal_of, dump, gets, lock_of, new_keeper, puts, seen, verdict

ROWS = {"a": 1, "c": 2, "e": "x", "g": 4}
AWAY = [("h", "p", "away", 1, 2), ("p", None, "away", 1, 3)]


def take(source, mover, *pieces):
    return ("take", source, mover, pieces)


class Gives(KeeperCase):
    def test_within_a_piece(self):
        keeper = new_keeper(**ROWS)
        before = seen(keeper)
        letter = ("cell", 2, take(1, 5, ("b", "e", 2, (("c", 2),))))
        self.do(keeper, ("give", 5, "b", "e", 2), [letter])
        self.assertEqual(seen(keeper), {
            **before, "orders": [letter], "leaving": [(5, 2)],
            "pieces": [("", "b", "own", 1, 1), ("b", "e", "leaving", 2, 2), ("e", "h", "own", 1, 1)] + AWAY,
        })

    def test_all_there_is(self):
        keeper = new_keeper(**ROWS)
        letter = ("cell", 3, take(1, 5, ("", "h", 2, tuple(sorted(ROWS.items())))))
        self.do(keeper, ("give", 5, "", None, 3), [letter])
        self.assertEqual(keeper.piece_rows(), [("", "h", "leaving", 2, 3)] + AWAY)
        self.assertEqual(keeper.key_rows(), sorted(ROWS.items()))

    def test_again(self):
        keeper = new_keeper(**ROWS)
        keeper.apply(("give", 5, "b", "e", 2))
        self.check_settled(keeper, ("give", 5, "b", "e", 2))
        self.check_settled(keeper, ("give", 5, "e", "f", 3))

    def test_bounds_are_cut_where_they_lie(self):
        keeper = new_keeper(**ROWS)
        keeper.apply(("give", 5, "g", "q", 2))
        self.assertEqual(keeper.piece_rows(), [
            ("", "g", "own", 1, 1), ("g", "h", "leaving", 2, 2), ("h", "p", "away", 1, 2), ("p", "q", "away", 1, 3),
            ("q", None, "away", 1, 3),
        ])

    def test_several_own_pieces(self):
        keeper = new_keeper(**ROWS)
        keeper.apply(("give", 5, "b", "c", 2))
        keeper.apply(("take", 2, 6, (("j", "k", 4, (("j1", 9),)),)))
        letter = ("cell", 3, take(1, 7, ("a5", "b", 2, ()), ("c", "h", 2, (("c", 2), ("e", "x"), ("g", 4))),
                                  ("j", "jz", 5, (("j1", 9),))))
        self.do(keeper, ("give", 7, "a5", "jz", 3), [letter])
        self.assertEqual(keeper.piece_rows(), [
            ("", "a5", "own", 1, 1), ("a5", "b", "leaving", 2, 3), ("b", "c", "leaving", 2, 2),
            ("c", "h", "leaving", 2, 3), ("h", "j", "away", 1, 2), ("j", "jz", "leaving", 5, 3),
            ("jz", "k", "own", 4, 1), ("k", "p", "away", 1, 2), ("p", None, "away", 1, 3),
        ])
        self.assertEqual(keeper.leaving_rows(), [(5, 2), (7, 3)])

    def test_a_bound_at_the_edge_of_a_piece(self):
        keeper = new_keeper(**ROWS)
        self.do(keeper, ("give", 5, "h", "i", 2))
        self.do(keeper, ("give", 6, "g", "h", 2), [("cell", 2, take(1, 6, ("g", "h", 2, (("g", 4),))))])
        self.do(keeper, ("give", 7, "", "a", 2), [("cell", 2, take(1, 7, ("", "a", 2, ())))])
        self.assertEqual(keeper.piece_rows()[:3], [
            ("", "a", "leaving", 2, 2), ("a", "g", "own", 1, 1), ("g", "h", "leaving", 2, 2)])

    def test_what_leaves_is_served_no_more(self):
        keeper = new_keeper(**ROWS)
        keeper.apply(("give", 5, "b", "e", 2))
        hint = ("moved", (("b", "e", 2, 2),))
        self.do(keeper, deal_of(0, 1, puts(("c", 9))), [answer(0, 1, hint)])
        self.do(keeper, deal_of(0, 2, gets("e")), [answer(0, 2, ("done", ("x",)))])
        self.do(keeper, lock_of(2, 1, 1, gets("c", "d"), 1), [verdict(2, 1, 1, 1, hint)])
        self.assertEqual(keeper.key_rows(), sorted(ROWS.items()))

    def test_hints_of_cut_pieces(self):
        keeper = new_keeper(**ROWS)
        keeper.apply(("give", 5, "b", "e", 2))
        keeper.apply(("give", 6, "e", "f", 3))
        deal = ((), (("get", "h"), ("get", "e"), ("get", "c"), ("get", "a")))
        self.do(keeper, deal_of(0, 1, deal, h=1),
                [answer(0, 1, ("moved", (("b", "e", 2, 2), ("e", "f", 3, 2), ("h", "p", 2, 1))))])


class Refused(KeeperCase):
    def check_refused(self, keeper, start, end, mover=5):
        before = seen(keeper)
        self.do(keeper, ("give", mover, start, end, 2))
        self.assertEqual(seen(keeper), {**before, "refused": [mover]})
        self.check_settled(keeper, ("give", mover, start, end, 2))
        self.check_settled(keeper, ("taken", mover))

    def test_without_an_own_piece(self):
        for start, end in (("h", None), ("h", "i"), ("j", "zz"), ("p", None)):
            self.check_refused(new_keeper(**ROWS), start, end)

    def test_where_nothing_lies(self):
        for start, end in (("c", "c"), ("d", "c"), ("h", "h"), ("zz", "a")):
            self.check_refused(new_keeper(**ROWS), start, end)

    def test_what_is_leaving_already(self):
        keeper = new_keeper(**ROWS)
        keeper.apply(("give", 1, "b", "e", 3))
        self.check_refused(keeper, "b", "e")
        self.assertEqual(keeper.leaving_rows(), [(1, 3)])

    def test_a_locked_key(self):
        for start, end in (("c", "d"), ("", None), ("b", "c0"), ("a", "h")):
            keeper = new_keeper(**ROWS)
            keeper.apply(lock_of(2, 0, 1, gets("c", "h"), 1))
            self.check_refused(keeper, start, end)

    def test_a_locked_key_of_a_home_deal(self):
        keeper = new_keeper(**ROWS)
        keeper.apply(deal_of(0, 1, puts(("d", 1), ("h", 1))))
        self.check_refused(keeper, "c", "e")

    def test_a_locked_key_beside_the_range(self):
        for start, end in (("", "c"), ("c0", "h"), ("c0", None)):
            keeper = new_keeper(**ROWS)
            keeper.apply(lock_of(2, 0, 1, gets("c", "h"), 1))
            keeper.apply(("give", 5, start, end, 2))
            self.assertEqual((keeper.leaving_rows(), keeper.refused(5)), ([(5, 2)], False), (start, end))

    def test_stays_known_when_the_range_is_free_again(self):
        keeper = new_keeper(**ROWS)
        keeper.apply(lock_of(2, 0, 1, gets("c", "h"), 1))
        self.check_refused(keeper, "c", "d")
        keeper.apply(("end", 2, 0, 1, 0))
        self.check_settled(keeper, ("give", 5, "c", "d", 2))
        self.do(keeper, ("give", 6, "c", "d", 2), [("cell", 2, take(1, 6, ("c", "d", 2, (("c", 2),))))])

    def test_what_is_not_known(self):
        keeper = new_keeper()
        self.assertEqual([(keeper.refused(mover), keeper.took(mover)) for mover in (0, 1, 5)], [(False, False)] * 3)


class Takes(KeeperCase):
    def test_becomes_own(self):
        keeper = new_keeper(**ROWS)
        before = seen(keeper)
        self.do(keeper, take(2, 4, ("i", "k", 2, (("i", 7), ("j5", "y")))), [("cell", 2, ("taken", 4))])
        self.assertEqual(seen(keeper), {
            **before, "took": [4], "rows": sorted({**ROWS, "i": 7, "j5": "y"}.items()),
            "pieces": [("", "h", "own", 1, 1), ("h", "i", "away", 1, 2), ("i", "k", "own", 2, 1),
                       ("k", "p", "away", 1, 2), ("p", None, "away", 1, 3)],
        })
        self.do(keeper, deal_of(0, 1, gets("i"), i=1), [answer(0, 1, ("done", (7,)))])

    def test_again(self):
        keeper = new_keeper(**ROWS)
        command = take(2, 4, ("i", "k", 2, (("i", 7),)))
        keeper.apply(command)
        keeper.apply(deal_of(0, 1, puts(("i", 8)), i=1))
        self.check_settled(keeper, command, [("cell", 2, ("taken", 4))])
        self.assertEqual(dict(keeper.key_rows())["i"], 8)

    def test_several_pieces(self):
        keeper = new_keeper(**ROWS)
        self.do(keeper, take(3, 4, ("h", "j", 3, (("h", 1),)), ("p", "q", 2, ()), ("z", None, 9, (("zz", 2),))),
                [("cell", 3, ("taken", 4))])
        self.assertEqual(keeper.piece_rows(), [
            ("", "h", "own", 1, 1), ("h", "j", "own", 3, 1), ("j", "p", "away", 1, 2), ("p", "q", "own", 2, 1),
            ("q", "z", "away", 1, 3), ("z", None, "own", 9, 1),
        ])
        self.assertEqual(keeper.key_rows(), sorted({**ROWS, "h": 1, "zz": 2}.items()))

    def test_over_several_pieces(self):
        keeper = new_keeper(2)
        keeper.apply(take(3, 4, ("k", "q", 6, (("k", 1), ("pp", 2)))))
        self.assertEqual(keeper.piece_rows(), [
            ("", "h", "away", 1, 1), ("h", "k", "own", 1, 2), ("k", "p", "own", 6, 2), ("p", "q", "own", 6, 2),
            ("q", None, "away", 1, 3),
        ])

    def test_comes_back_ahead_of_the_news(self):
        keeper = new_keeper(**ROWS)
        keeper.apply(("give", 5, "b", "f", 2))
        keeper.apply(take(2, 6, ("c", "d", 3, (("c5", 8),))))
        self.assertEqual(keeper.piece_rows()[:5], [
            ("", "b", "own", 1, 1), ("b", "c", "leaving", 2, 2), ("c", "d", "own", 3, 1), ("d", "f", "leaving", 2, 2),
            ("f", "h", "own", 1, 1),
        ])
        self.assertEqual(keeper.key_rows(), [("a", 1), ("c5", 8), ("e", "x"), ("g", 4)])
        self.assertEqual(keeper.leaving_rows(), [(5, 2)])


class News(KeeperCase):
    def test_goes_away(self):
        keeper = new_keeper(**ROWS)
        keeper.apply(("give", 5, "b", "f", 2))
        self.do(keeper, ("taken", 5))
        self.assertEqual(keeper.piece_rows(), [("", "b", "own", 1, 1), ("b", "f", "away", 2, 2),
                                               ("f", "h", "own", 1, 1)] + AWAY)
        self.assertEqual((keeper.key_rows(), keeper.leaving_rows(), keeper.orders()), ([("a", 1), ("g", 4)], [], []))
        self.check_settled(keeper, ("taken", 5))
        self.check_settled(keeper, ("give", 5, "b", "f", 2))
        self.assertIs(keeper.refused(5), False)

    def test_only_of_this_mover(self):
        keeper = new_keeper(**ROWS)
        keeper.apply(("give", 5, "b", "d", 2))
        keeper.apply(("give", 6, "d", "f", 3))
        self.check_settled(keeper, ("taken", 7))
        self.do(keeper, ("taken", 6))
        self.assertEqual(keeper.piece_rows()[1:3], [("b", "d", "leaving", 2, 2), ("d", "f", "away", 2, 3)])
        self.assertEqual((keeper.leaving_rows(), keeper.key_rows()), ([(5, 2)], [("a", 1), ("c", 2), ("g", 4)]))

    def test_a_part_that_came_back_stays(self):
        keeper = new_keeper(**ROWS)
        keeper.apply(("give", 5, "b", "f", 2))
        keeper.apply(take(2, 6, ("c", "d", 3, (("c5", 8),))))
        self.do(keeper, ("taken", 5))
        self.assertEqual(keeper.piece_rows()[:5], [
            ("", "b", "own", 1, 1), ("b", "c", "away", 2, 2), ("c", "d", "own", 3, 1), ("d", "f", "away", 2, 2),
            ("f", "h", "own", 1, 1),
        ])
        self.assertEqual(keeper.key_rows(), [("a", 1), ("c5", 8), ("g", 4)])

    def test_a_part_that_came_back_and_left_again_stays(self):
        keeper = new_keeper(**ROWS)
        keeper.apply(("give", 5, "b", "f", 2))
        keeper.apply(take(2, 6, ("c", "d", 3, (("c5", 8),))))
        letter = ("cell", 3, take(1, 7, ("a", "b", 2, (("a", 1),)), ("c", "d", 4, (("c5", 8),))))
        self.do(keeper, ("give", 7, "a", "f", 3), [letter])
        self.do(keeper, ("taken", 5))
        self.assertEqual(keeper.piece_rows()[1:5], [
            ("a", "b", "leaving", 2, 3), ("b", "c", "away", 2, 2), ("c", "d", "leaving", 4, 3),
            ("d", "f", "away", 2, 2)])
        self.assertEqual(keeper.leaving_rows(), [(7, 3)])
        self.do(keeper, ("taken", 7))
        self.assertEqual(keeper.piece_rows()[1:5], [
            ("a", "b", "away", 2, 3), ("b", "c", "away", 2, 2), ("c", "d", "away", 4, 3), ("d", "f", "away", 2, 2)])

    def test_all_came_back(self):
        keeper = new_keeper(**ROWS)
        keeper.apply(("give", 5, "b", "f", 2))
        keeper.apply(take(2, 6, ("b", "f", 3, (("c5", 8),))))
        self.assertEqual(keeper.leaving_rows(), [(5, 2)])
        before = seen(keeper)
        self.do(keeper, ("taken", 5))
        self.assertEqual(seen(keeper), {**before, "leaving": [], "orders": []})

    def test_what_the_mover_brings_stays_the_same(self):
        keeper = new_keeper(**ROWS)
        letters = keeper.apply(("give", 5, "b", "f", 2))
        keeper.apply(("give", 6, "a", "c", 3))
        keeper.apply(take(2, 7, ("c", "d", 3, (("c5", 8),))))
        keeper.apply(deal_of(0, 1, puts(("c5", 9))))
        self.assertEqual(keeper.orders()[0], letters[0])
        self.assertEqual(letters[0][2][3], (("b", "f", 2, (("c", 2), ("e", "x"))),))

    def test_pieces_that_were_cut_while_they_left(self):
        keeper = new_keeper(**ROWS)
        keeper.apply(("give", 5, "b", "f", 2))
        keeper.apply(("give", 6, "a", "d", 3))
        self.assertEqual(keeper.piece_rows()[1:4], [
            ("a", "b", "leaving", 2, 3), ("b", "d", "leaving", 2, 2), ("d", "f", "leaving", 2, 2)])
        keeper.apply(("taken", 5))
        self.assertEqual(keeper.piece_rows()[1:4], [
            ("a", "b", "leaving", 2, 3), ("b", "d", "away", 2, 2), ("d", "f", "away", 2, 2)])

    def test_there_and_back(self):
        first, second = new_keeper(**ROWS), new_keeper(2)
        there = first.apply(("give", 1, "c", "f", 2))[0][2]
        self.assertEqual(second.apply(there), [("cell", 1, ("taken", 1))])
        self.assertEqual(second.key_rows(), [("c", 2), ("e", "x")])
        second.apply(deal_of(0, 1, puts(("e", 5)), e=2))
        back = second.apply(("give", 2, "d", None, 1))[0][2]
        self.assertEqual(back[3], (("d", "f", 3, (("e", 5),)), ("h", "p", 2, ())))
        first.apply(back)
        first.apply(("taken", 1))
        second.apply(("taken", 2))
        self.check_settled(second, there, [("cell", 1, ("taken", 1))])
        self.check_settled(first, back, [("cell", 2, ("taken", 2))])
        self.assertEqual([row for row in first.piece_rows() if row[2] == "own"], [
            ("", "c", "own", 1, 1), ("d", "f", "own", 3, 1), ("f", "h", "own", 1, 1), ("h", "p", "own", 2, 1)])
        self.assertEqual([row for row in second.piece_rows() if row[2] == "own"], [("c", "d", "own", 2, 2)])
        self.assertEqual((first.key_rows(), second.key_rows()), ([("a", 1), ("e", 5), ("g", 4)], [("c", 2)]))


class Packed(KeeperCase):
    def test_letters_stay_what_they_were(self):
        keeper = new_keeper(**ROWS)
        letters = keeper.apply(("give", 5, "b", "f", 2)) + keeper.apply(deal_of(0, 1, puts(("a", 2), ("h", 3))))
        before = dump(letters)
        keeper.apply(("locked", 0, 1, 2, ("tried", (1, (), ((1, None),), (("h", 3),)))))
        keeper.apply(("taken", 5))
        self.assertEqual(dump(letters), before)


if __name__ == "__main__":
    unittest.main()
