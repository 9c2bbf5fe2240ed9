"""Points [30] and [31]: the bag."""

import unittest

from crosskeep.bag.bag import Bag
from crosskeep.errors import LinkCut, NoMessage


def state(bag):
    """All that a bag tells, with the number that its next message would get."""
    messages = [(number, bag.message(number), bag.is_cut(number)) for number in bag.numbers()]
    return (messages, bag.links(), bag.fork().send(0, 0, None))


class Messages(unittest.TestCase):
    def test_example_of_the_interface(self):
        bag = Bag()
        self.assertEqual(bag.send(10, 11, ("ask", 1)), 0)
        self.assertEqual(bag.double(0), 1)
        self.assertIsNone(bag.cut(10, 11))
        with self.assertRaises(LinkCut):
            bag.take(1)
        self.assertIsNone(bag.heal(10, 11))
        self.assertEqual(bag.take(1), (10, 11, ("ask", 1)))
        self.assertEqual(bag.numbers(), [0])

    def test_a_new_one(self):
        self.assertEqual(state(Bag()), ([], [], 0))

    def test_send_and_message(self):
        bag = Bag()
        bodies = [None, 0, "", (), ("tell", 1, (2, 0), ("batch", ()))]
        self.assertEqual([bag.send(at, 40 - at, body) for at, body in enumerate(bodies)], [0, 1, 2, 3, 4])
        self.assertEqual([bag.message(at) for at in range(5)], [(at, 40 - at, bodies[at]) for at in range(5)])
        self.assertEqual(bag.numbers(), [0, 1, 2, 3, 4])

    def test_take_in_any_order(self):
        bag = Bag()
        for at in range(4):
            bag.send(at, 9, at)
        self.assertEqual(bag.take(2), (2, 9, 2))
        self.assertEqual(bag.take(0), (0, 9, 0))
        self.assertEqual(bag.numbers(), [1, 3])
        self.assertEqual(bag.take(3), (3, 9, 3))
        self.assertEqual(bag.take(1), (1, 9, 1))
        self.assertEqual(bag.numbers(), [])

    def test_drop(self):
        bag = Bag()
        bag.send(1, 2, "x")
        bag.send(1, 2, "y")
        self.assertIsNone(bag.drop(0))
        self.assertEqual(bag.numbers(), [1])

    def test_double(self):
        bag = Bag()
        bag.send(1, 2, "x")
        bag.send(3, 4, "y")
        self.assertEqual(bag.double(0), 2)
        self.assertEqual(bag.double(2), 3)
        self.assertEqual([bag.message(number) for number in (0, 2, 3)], [(1, 2, "x")] * 3)
        bag.take(0)
        self.assertEqual(bag.numbers(), [1, 2, 3])

    def test_numbers_are_never_used_again(self):
        bag = Bag()
        for number in range(0, 9, 3):
            self.assertEqual(bag.send(1, 2, "x"), number)
            self.assertEqual(bag.double(number), number + 1)
            self.assertEqual(bag.double(number), number + 2)
            bag.take(number)
            bag.drop(number + 2)
            bag.drop(number + 1)
        self.assertEqual(bag.numbers(), [])

    def test_many_messages(self):
        bag = Bag()
        for at in range(5000):
            bag.send(0, 1, at)
        self.assertEqual(bag.numbers(), list(range(5000)))
        self.assertEqual(bag.message(4999), (0, 1, 4999))


class NoSuchMessage(unittest.TestCase):
    def test_never_there_or_gone(self):
        bag = Bag()
        for _ in range(3):
            bag.send(1, 2, "x")
        bag.take(0)
        bag.drop(1)
        bag.cut(1, 2)
        before = state(bag)
        for number in (0, 1, 3, 100, -1):
            for call in (bag.message, bag.take, bag.drop, bag.is_cut, bag.double):
                with self.assertRaises(NoMessage):
                    call(number)
                self.assertEqual(state(bag), before)

    def test_an_empty_bag(self):
        with self.assertRaises(NoMessage):
            Bag().take(0)


class Links(unittest.TestCase):
    def setUp(self):
        self.bag = Bag()
        self.bag.send(1, 2, "x")
        self.bag.send(2, 1, "y")
        self.bag.send(1, 3, "z")

    def test_one_way_alone(self):
        self.bag.cut(1, 2)
        self.assertEqual([self.bag.is_cut(number) for number in range(3)], [True, False, False])
        self.assertEqual(self.bag.take(1), (2, 1, "y"))
        self.assertEqual(self.bag.take(2), (1, 3, "z"))

    def test_a_refused_take_changes_nothing(self):
        self.bag.cut(1, 2)
        before = state(self.bag)
        with self.assertRaises(LinkCut):
            self.bag.take(0)
        self.assertEqual(state(self.bag), before)

    def test_drop_double_and_send_over_a_cut_link(self):
        self.bag.cut(1, 2)
        self.assertEqual(self.bag.double(0), 3)
        self.assertEqual(self.bag.send(1, 2, "w"), 4)
        self.bag.drop(0)
        self.assertEqual(self.bag.numbers(), [1, 2, 3, 4])
        self.assertIs(self.bag.is_cut(3), True)
        self.assertIs(self.bag.is_cut(4), True)

    def test_cut_twice_and_healed_twice(self):
        self.bag.cut(1, 2)
        self.bag.cut(1, 2)
        self.assertEqual(self.bag.links(), [(1, 2)])
        self.bag.heal(1, 2)
        self.assertEqual(self.bag.links(), [])
        self.bag.heal(1, 2)
        self.assertIs(self.bag.is_cut(0), False)
        self.assertEqual(self.bag.take(0), (1, 2, "x"))

    def test_ascending(self):
        for link in ((11, 2), (2, 11), (2, 3), (0, 40), (11, 0), (2, 2)):
            self.bag.cut(*link)
        self.assertEqual(self.bag.links(), [(0, 40), (2, 2), (2, 3), (2, 11), (11, 0), (11, 2)])
        self.bag.heal(2, 3)
        self.assertEqual(self.bag.links(), [(0, 40), (2, 2), (2, 11), (11, 0), (11, 2)])

    def test_lists_that_are_returned(self):
        self.bag.cut(1, 2)
        before = state(self.bag)
        self.bag.numbers().append(9)
        self.bag.links().append((8, 8))
        self.bag.numbers().clear()
        self.bag.links().clear()
        self.assertEqual(state(self.bag), before)


class Forks(unittest.TestCase):
    CHANGES = [
        lambda bag: bag.send(5, 6, "n"), lambda bag: bag.take(1), lambda bag: bag.drop(0), lambda bag: bag.double(0),
        lambda bag: bag.cut(2, 1), lambda bag: bag.heal(1, 2),
    ]

    def test_each_changed_apart_from_the_other(self):
        for change in self.CHANGES:
            bag = Bag()
            bag.send(1, 2, "x")
            bag.send(2, 1, "y")
            bag.drop(bag.send(3, 3, "z"))
            bag.cut(1, 2)
            before = state(bag)
            twin = bag.fork()
            other = bag.fork()
            self.assertIsInstance(twin, Bag)
            self.assertEqual(state(twin), before)
            change(twin)
            self.assertEqual(state(bag), before)
            self.assertNotEqual(state(twin), before)
            change(bag)
            self.assertEqual(state(other), before)
            self.assertEqual(state(bag), state(twin))
