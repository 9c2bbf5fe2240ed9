"""Point [80]: plans."""

import unittest

from crosskeep.errors import CrossError, OutOfRange
from crosskeep.world.plan import Plan
from crosskeep.world.world import World
from samples import NEVER

SIZES = (3, 1, 7)
MEMBERS = ((0, 1, 2), (0,), (1, 3, 4, 5, 6))
RANGES = (("", 1), ("h", 2), ("h0", 1), ("p", 3))


class Plans(unittest.TestCase):
    def accept(self, sizes=SIZES, members=MEMBERS, ranges=RANGES, lazy=False):
        plan = Plan(sizes, members, ranges, lazy)
        self.assertEqual((plan.sizes, plan.members, plan.ranges, plan.lazy), (sizes, members, ranges, lazy))
        self.assertEqual(World(sizes, members, ranges, lazy).plan.sizes, sizes)

    def refuse(self, sizes=SIZES, members=MEMBERS, ranges=RANGES, lazy=False):
        for make in (Plan, World):
            with self.assertRaises(OutOfRange) as caught:
                make(sizes, members, ranges, lazy)
            self.assertIs(type(caught.exception).__base__, CrossError)

    def test_fields(self):
        self.accept()
        self.accept(lazy=True)

    def test_numbers_of_cells(self):
        for cells in range(1, 5):
            self.accept((1,) * cells, ((0,),) * cells, (("", cells),))
        self.refuse((), (), (("", 1),))
        self.refuse((1,) * 5, ((0,),) * 5, (("", 1),))

    def test_sizes(self):
        for size in range(1, 8):
            self.accept((size,), ((size - 1,),), (("", 1),))
        for size in (0, 8, -1, 100, "1", None, True, (1,)):
            self.refuse((size,), ((0,),), (("", 1),))
            self.refuse((3, size), ((0,), (0,)), (("", 1),))

    def test_first_members(self):
        for members in ((0,), (2,), (0, 2), (0, 1, 2)):
            self.accept((3,), (members,), (("", 1),))
        for members in ((3,), (0, 3), (), (1, 0), (0, 0), (0, 1, 1), (-1,), (-1, 0), ("0",), (None,), (True,),
                        (0, (1,)), [0], [0, 1], 0, "0", None):
            self.refuse((3,), (members,), (("", 1),))
        self.accept((7,), ((0, 2, 3, 4, 6),), (("", 1),))
        self.refuse((7,), ((0, 1, 2, 3, 4, 5),), (("", 1),))
        self.refuse((7,), ((7,),), (("", 1),))

    def test_members_of_another_cells_size(self):
        self.refuse((3, 1), ((0,), (0, 1, 2)), (("", 1),))
        self.refuse((1, 3), ((0, 1), (0,)), (("", 1),))

    def test_members_of_more_or_of_fewer_cells(self):
        self.refuse((3, 1), ((0,),), (("", 1),))
        self.refuse((3,), ((0,), (0,)), (("", 1),))
        self.refuse((3,), (), (("", 1),))

    def test_numbers_of_ranges(self):
        starts = ("", "a", "b", "c", "d", "e", "f", "g", "h")
        for count in range(1, 9):
            self.accept(ranges=tuple((start, 1) for start in starts[:count]))
        self.refuse(ranges=())
        self.refuse(ranges=tuple((start, 1) for start in starts))

    def test_starts(self):
        for starts in (("a",), ("a", ""), ("", ""), ("", "b", "a"), ("", "b", "b"), ("", "b", "")):
            self.refuse(ranges=tuple((start, 1) for start in starts))
        for start in ("B", "a-", "abcdefghi", " ", "a\n", None, 5, True, ("a",)):
            self.refuse(ranges=(("", 1), (start, 1)))
            self.refuse(ranges=((start, 1),))
        self.accept(ranges=(("", 1), ("0", 2), ("abcdefgh", 3)))
        self.accept(ranges=(("", 1), ("9", 2), ("a", 2), ("a0", 3), ("aa", 1)))

    def test_cells_of_ranges(self):
        for cell in (1, 2, 3):
            self.accept(ranges=(("", cell),))
        for cell in (0, 4, -1, "1", None, True, (1,)):
            self.refuse(ranges=(("", cell),))
            self.refuse(ranges=(("", 1), ("b", cell)))

    def test_data_of_other_kinds(self):
        for data in NEVER + [None, 5, "x", [], {}, [3], list(SIZES), list(MEMBERS), list(RANGES)]:
            self.refuse(sizes=data)
            self.refuse(members=data)
            self.refuse(ranges=data)
        for pair in ([], ["", 1], (), ("",), ("", 1, 1), "", None, 1, ("", [1])):
            self.refuse(ranges=(pair,))
        for lazy in (None, 0, 1, "", ()):
            self.refuse(lazy=lazy)

    def test_plans_are_apart(self):
        first, second = Plan(SIZES, MEMBERS, RANGES, False), Plan((1,), ((0,),), (("", 1),), True)
        self.assertEqual((first.sizes, second.sizes), (SIZES, (1,)))


if __name__ == "__main__":
    unittest.main()
