"""Points [22] to [24]: packs."""

import unittest
from itertools import product

from crosskeep.errors import Malformed
from crosskeep.packing.packs import MOST_DEPTH, MOST_INTEGER, pack, unpack, unpack_own

SIGNS = "".join([chr(code) for code in range(32, 127) if code != 37])
MOST = 10 ** 18


def nested(depth, inner=()):
    data = inner
    for _ in range(depth - 1):
        data = (data,)
    return data


def sevens(number):
    digits = [number % 128]
    while number >= 128:
        number //= 128
        digits.append(number % 128)
    return [digit + 128 for digit in digits[:-1]] + digits[-1:]


INTEGERS = [0, 1, 2, 126, 127, 128, 129, 255, 256, 300, 16383, 16384, 2097151, 2097152, 10 ** 9, MOST - 1, MOST]
DATA = (
    [None] + INTEGERS + [-number - 1 for number in INTEGERS[:-1]] + [-number for number in INTEGERS[1:]]
    + ["", " ", "a", "ab", "b", "~" * 127, "~" * 128, "x" * 20000, SIGNS, '"\\']
    + [(), (None,), (None, None), (0,), (-1,), ((),), ((), ()), ("a", 1), (1, "a"), ("ab",), ("a", "b")]
    + [(0,) * 127, (0,) * 128, (None,) * 300, nested(40), nested(40, (1, "x")), (1, (2, ("x", ()), None), -5)]
)


class Packs(unittest.TestCase):
    def test_limits(self):
        self.assertEqual((MOST_DEPTH, MOST_INTEGER), (40, 10 ** 18))

    def test_examples_of_the_interface(self):
        self.assertEqual(pack(("put", 300, None)), [4, 3, 3, 3, 112, 117, 116, 1, 172, 2, 0])
        self.assertEqual(unpack([4, 1, 2, 0]), (-1,))
        with self.assertRaises(Malformed):
            unpack([1, 128, 0])

    def test_the_table(self):
        self.assertEqual(pack(None), [0])
        self.assertEqual(pack(0), [1, 0])
        self.assertEqual(pack(127), [1, 127])
        self.assertEqual(pack(128), [1, 128, 1])
        self.assertEqual(pack(16384), [1, 128, 128, 1])
        self.assertEqual(pack(-1), [2, 0])
        self.assertEqual(pack(-128), [2, 127])
        self.assertEqual(pack(-129), [2, 128, 1])
        self.assertEqual(pack(""), [3, 0])
        self.assertEqual(pack(" ~"), [3, 2, 32, 126])
        self.assertEqual(pack(()), [4, 0])
        self.assertEqual(pack((None, ("a",), 5)), [4, 3, 0, 4, 1, 3, 1, 97, 1, 5])

    def test_integers_far_out(self):
        self.assertEqual(pack(MOST), [1] + sevens(MOST))
        self.assertEqual(pack(-MOST), [2] + sevens(MOST - 1))

    def test_lengths_of_127_and_128(self):
        self.assertEqual(pack("a" * 127), [3, 127] + [97] * 127)
        self.assertEqual(pack("a" * 128), [3, 128, 1] + [97] * 128)
        self.assertEqual(pack((None,) * 127), [4, 127] + [0] * 127)
        self.assertEqual(pack((None,) * 128), [4, 128, 1] + [0] * 128)

    def test_back(self):
        for data in DATA:
            back = unpack(pack(data))
            self.assertEqual(back, data)
            self.assertIs(type(back), type(data))

    def test_each_sign_of_texts(self):
        for sign in SIGNS:
            self.assertEqual(pack(sign), [3, 1, ord(sign)])
            self.assertEqual(unpack([3, 1, ord(sign)]), sign)

    def test_different_data_have_different_packs_and_none_begins_another(self):
        packs = sorted([pack(data) for data in set(DATA)])
        for first, second in zip(packs, packs[1:]):
            self.assertNotEqual(second[:len(first)], first)

    def test_beyond_the_limits_pack_raises_nothing(self):
        self.assertEqual(pack(MOST + 1), [1] + sevens(MOST + 1))
        self.assertEqual(pack(-MOST - 1), [2] + sevens(MOST))
        self.assertEqual(pack(nested(41)), [4, 1] * 40 + [4, 0])

    def test_lists_stay_and_are_new(self):
        octets = [4, 2, 1, 128, 1, 3, 1, 97]
        self.assertEqual(unpack(octets), (128, "a"))
        self.assertEqual(octets, [4, 2, 1, 128, 1, 3, 1, 97])
        pack(()).append(7)
        self.assertEqual(pack(()), [4, 0])


class MalformedOctets(unittest.TestCase):
    def refuse(self, octets):
        before = list(octets)
        with self.assertRaises(Malformed) as caught:
            unpack(octets)
        self.assertEqual(caught.exception.line, 0)
        self.assertEqual(octets, before)

    def test_no_octets(self):
        self.refuse([])

    def test_cut_off(self):
        for data in DATA:
            octets = pack(data)
            for length in list(range(min(len(octets), 50))) + [len(octets) - 1]:
                self.refuse(octets[:length])

    def test_one_more_behind(self):
        for data in DATA:
            for octet in (0, 1, 97, 128, 255):
                self.refuse(pack(data) + [octet])

    def test_a_first_octet_that_no_data_has(self):
        for octet in range(5, 256):
            self.refuse([octet])
            self.refuse([octet, 0])
            self.refuse([4, 1, octet, 0])

    def test_a_last_digit_0_of_several(self):
        for kind in (1, 2, 3, 4):
            self.refuse([kind, 128, 0])
            self.refuse([kind, 129, 128, 0])
        self.refuse([3, 129, 0, 97])
        self.refuse([4, 129, 0, 0])
        self.assertEqual(unpack([1, 128, 128, 1]), 16384)

    def test_characters_that_are_none_of_a_text(self):
        for octet in range(256):
            if chr(octet) in SIGNS:
                self.assertEqual(unpack([3, 3, 97, octet, 98]), "a" + chr(octet) + "b")
            else:
                self.refuse([3, 3, 97, octet, 98])
                self.refuse([3, 1, octet])

    def test_integers_at_the_bounds_and_beyond(self):
        self.assertEqual(unpack([1] + sevens(MOST)), MOST)
        self.assertEqual(unpack([2] + sevens(MOST - 1)), -MOST)
        self.refuse([1] + sevens(MOST + 1))
        self.refuse([2] + sevens(MOST))
        self.refuse([4, 1, 1] + sevens(10 ** 30))
        self.refuse([1] + [255] * 3000 + [1])

    def test_depth(self):
        self.assertEqual(unpack([4, 1] * 39 + [4, 0]), nested(40))
        self.refuse([4, 1] * 40 + [4, 0])
        self.refuse([4, 2, 0] + [4, 1] * 39 + [4, 0])
        self.assertEqual(unpack([4, 1] * 40 + [0]), nested(40, (None,)))
        self.refuse([4, 1] * 100000 + [4, 0])

    def test_many_deep_tuples_beside_one_another(self):
        data = (nested(39), nested(39), nested(39))
        self.assertEqual(unpack(pack(data)), data)

    def test_lengths_beyond_all_octets(self):
        for kind in (3, 4):
            self.refuse([kind] + sevens(10 ** 30))
            self.refuse([kind] + sevens(10 ** 18) + [0] * 100)
            self.refuse([kind, 3, 97, 97])

    def test_what_is_not_refused_is_just_a_pack(self):
        good = 0
        for length in range(1, 6):
            for octets in product((0, 1, 2, 3, 4, 37, 127, 128, 129), repeat=length):
                try:
                    data = unpack(list(octets))
                except Malformed:
                    continue
                good += 1
                self.assertEqual(pack(data), list(octets))
        self.assertGreater(good, 100)


class OwnPacks(unittest.TestCase):
    """Packs that the program made of what callers pass, who may go somewhat beyond the limits."""

    def test_within_the_limits(self):
        for data in DATA:
            self.assertEqual(unpack_own(pack(data)), data)

    def test_beyond_the_limits(self):
        for data in (nested(41), nested(43, (1, "x")), nested(60), MOST + 1, -MOST - 1, (10 ** 30, nested(50))):
            octets = pack(data)
            self.assertEqual(unpack_own(octets), data)
            self.assertEqual(octets, pack(data))

    def test_no_packs(self):
        for octets in ([], [5], [4, 1], [1, 128, 0], [3, 1, 37], [0, 0]):
            with self.assertRaises(Malformed):
                unpack_own(octets)


if __name__ == "__main__":
    unittest.main()
