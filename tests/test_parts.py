"""Points [18] to [21] and [4]: parts of deals, tried apart and joined."""

import unittest
from itertools import permutations

from crosskeep.data.deals import do_deal, keys_of
from crosskeep.data.parts import join_parts, keys_of_part, part_of, try_part, write_rows
from samples import rows_and_deals

DEAL = (
    (("b", 1), ("a", None), ("b", 2)),
    (("get", "c"), ("put", "a", 5), ("add", "b", 1), ("del", "a")),
)


class Example(unittest.TestCase):
    def test_of_the_interface(self):
        deal = ((("a", 3),), (("del", "b"), ("add", "a", 1)))
        self.assertEqual(part_of(deal, ["a"]), (((0, "a", 3),), ((1, ("add", "a", 1)),)))
        first = try_part({"a": 3}, part_of(deal, ["a"]))
        self.assertEqual(first, (1, ((0, 3),), ((1, 4),), (("a", 4),)))
        second = try_part({"b": "x"}, part_of(deal, ["b"]))
        self.assertEqual(join_parts([second, first]), ("done", ("x", 4)))


class PartOf(unittest.TestCase):
    def test_places_are_those_of_the_deal(self):
        self.assertEqual(part_of(DEAL, ["a"]), (((1, "a", None),), ((1, ("put", "a", 5)), (3, ("del", "a")))))
        self.assertEqual(part_of(DEAL, ["b"]), (((0, "b", 1), (2, "b", 2)), ((2, ("add", "b", 1)),)))
        self.assertEqual(part_of(DEAL, ["c"]), ((), ((0, ("get", "c")),)))

    def test_places_ascend_whatever_the_order_of_the_keys(self):
        for keys in permutations(("a", "b", "c")):
            checks, deeds = part_of(DEAL, keys)
            self.assertEqual(checks, ((0, "b", 1), (1, "a", None), (2, "b", 2)))
            self.assertEqual([place for place, _ in deeds], [0, 1, 2, 3])

    def test_no_keys_and_keys_of_no_deal(self):
        for keys in ([], (), ["d"], ("d", "zz"), ["aa"], ("",)):
            self.assertEqual(part_of(DEAL, keys), ((), ()), keys)
        self.assertEqual(part_of(DEAL, ["d", "c"]), part_of(DEAL, ["c"]))

    def test_a_list_and_a_tuple(self):
        self.assertEqual(part_of(DEAL, ["a", "b"]), part_of(DEAL, ("a", "b")))
        keys = ["b", "a"]
        part_of(DEAL, keys)
        self.assertEqual(keys, ["b", "a"])

    def test_keys_of_a_part(self):
        self.assertEqual(keys_of_part(part_of(DEAL, ["c", "b", "a"])), ("a", "b", "c"))
        self.assertEqual(keys_of_part(part_of(DEAL, ["b", "x"])), ("b",))
        self.assertEqual(keys_of_part((((0, "b", 1),), ((0, ("get", "a")),))), ("a", "b"))
        self.assertEqual(keys_of_part(((), ())), ())


class TryPart(unittest.TestCase):
    def test_a_part_that_holds(self):
        part = (((0, "a", 1), (3, "b", None)), ((1, ("add", "a", 1)), (2, ("get", "a")), (4, ("put", "b", "x"))))
        wanted = (1, ((0, 1), (3, None)), ((1, 2), (2, 2), (4, None)), (("a", 2), ("b", "x")))
        self.assertEqual(try_part({"a": 1, "z": 9}, part), wanted)

    def test_a_part_with_a_check_that_does_not_hold(self):
        part = (((0, "a", 1), (3, "b", None)), ((1, ("add", "a", 1)),))
        self.assertEqual(try_part({"a": 2}, part), (0, ((0, 2), (3, None)), (), ()))
        self.assertEqual(try_part({"a": 1, "b": ""}, part), (0, ((0, 1), (3, "")), (), ()))

    def test_held_is_a_number(self):
        for rows in ({}, {"a": 1}):
            held = try_part(rows, (((0, "a", 1),), ()))[0]
            self.assertNotIsInstance(held, bool)
            self.assertEqual(held, len(rows))

    def test_writes_ascend_whatever_the_order_of_the_deeds(self):
        part = ((), ((0, ("put", "c", 1)), (1, ("del", "b")), (2, ("put", "a", 2))))
        self.assertEqual(try_part({"b": 7}, part)[3], (("a", 2), ("b", None), ("c", 1)))

    def test_no_writes_of_what_stood_there_before(self):
        self.assertEqual(try_part({"a": 5}, ((), ((0, ("put", "a", 5)),)))[2:], (((0, 5),), ()))
        self.assertEqual(try_part({}, ((), ((0, ("del", "a")),)))[2:], (((0, None),), ()))
        self.assertEqual(try_part({"a": 5}, ((), ((0, ("add", "a", 0)),)))[2:], (((0, 5),), ()))
        self.assertEqual(try_part({"a": 5}, ((), ((0, ("get", "a")),)))[2:], (((0, 5),), ()))
        there_and_back = ((), ((0, ("put", "a", "x")), (1, ("put", "b", 1)), (2, ("put", "a", 5)), (3, ("del", "b"))))
        self.assertEqual(try_part({"a": 5}, there_and_back)[3], ())
        self.assertEqual(try_part({}, ((), ((0, ("put", "a", 0)),)))[3], (("a", 0),))

    def test_an_empty_part(self):
        self.assertEqual(try_part({"a": 1}, ((), ())), (1, (), (), ()))

    def test_rows_stay(self):
        for _, rows, deal in rows_and_deals(1, 300):
            before = dict(rows)
            try_part(rows, part_of(deal, keys_of(deal)))
            self.assertEqual(rows, before)


class WriteRows(unittest.TestCase):
    def test_values_and_nothing(self):
        rows = {"a": 1, "b": 2, "c": 3}
        write_rows(rows, (("a", None), ("b", "x"), ("d", 0), ("e", None)))
        self.assertEqual(rows, {"b": "x", "c": 3, "d": 0})

    def test_no_writes(self):
        rows = {"a": 1}
        write_rows(rows, ())
        self.assertEqual(rows, {"a": 1})


class JoinParts(unittest.TestCase):
    def test_by_places_in_any_order_of_the_parts(self):
        tried = [
            (1, ((1, "v"), (2, 5)), ((0, "x"), (3, None)), ()),
            (1, ((0, None),), ((2, 7),), (("a", 7),)),
            (1, (), ((1, 0),), ()),
        ]
        for some in permutations(tried):
            self.assertEqual(join_parts(list(some)), ("done", ("x", 0, 7, None)))
            self.assertEqual(join_parts(some), ("done", ("x", 0, 7, None)))

    def test_one_part_that_does_not_hold(self):
        tried = [(1, ((1, "v"), (2, 5)), ((0, "x"),), ()), (0, ((0, None),), (), ()), (1, (), ((1, 0),), ())]
        for some in permutations(tried):
            self.assertEqual(join_parts(some), ("unheld", (None, "v", 5)))

    def test_the_list_stays(self):
        tried = [(1, (), ((1, 0),), ()), (1, (), ((0, 5),), ())]
        before = list(tried)
        join_parts(tried)
        self.assertEqual(tried, before)

    def test_as_the_whole_deal(self):
        answers = []
        for random, rows, deal in rows_and_deals(2, 3000):
            cells = {key: random.randrange(3) for key in "abcd"}
            tried = []
            for cell in range(3):
                own = [key for key in cells if cells[key] == cell]
                part = part_of(deal, own)
                tried.append(try_part({key: rows[key] for key in own if key in rows}, part))
            random.shuffle(tried)
            whole = dict(rows)
            answer = do_deal(whole, deal)
            self.assertEqual(join_parts(tried), answer)
            if answer[0] == "done":
                for _, _, _, writes in tried:
                    write_rows(rows, writes)
            self.assertEqual(rows, whole)
            answers.append(answer[0])
        self.assertEqual(set(answers), {"done", "unheld"})
