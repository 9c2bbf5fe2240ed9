"""Points [25] and [26]: checksums and frames."""

import unittest

from crosskeep.packing.frames import FRAME_HEAD, MOST_PAYLOAD, checksum, frame, read_frames

PRIME = 4294967291


def by_powers(octets):
    """The checksum told in another way: as a sum with powers of 257."""
    last = len(octets) - 1
    total = pow(257, len(octets), PRIME)
    return (total + sum((octet + 1) * pow(257, last - at, PRIME) for at, octet in enumerate(octets))) % PRIME


def row_of(length):
    return [(at * at + 7 * at + 3) % 256 for at in range(length)]


class Checksums(unittest.TestCase):
    def test_small_ones(self):
        self.assertEqual(checksum([]), 1)
        self.assertEqual(checksum([0]), 258)
        self.assertEqual(checksum([7]), 265)
        self.assertEqual(checksum([255]), 513)
        self.assertEqual(checksum([7, 0]), 265 * 257 + 1)

    def test_long_ones(self):
        for length in (3, 4, 5, 255, 256, 1000, 65535):
            octets = row_of(length)
            self.assertEqual(checksum(octets), by_powers(octets), length)
            self.assertTrue(0 <= checksum(octets) < PRIME)

    def test_one_octet_replaced(self):
        for octets in ([0], [255], [0, 0, 0], [1, 2, 3, 4, 5, 6], row_of(40)):
            whole = checksum(octets)
            for at, right in enumerate(octets):
                for wrong in range(256):
                    changed = checksum(octets[:at] + [wrong] + octets[at + 1:])
                    self.assertEqual(changed == whole, wrong == right)

    def test_the_list_stays(self):
        octets = [1, 2, 3]
        checksum(octets)
        self.assertEqual(octets, [1, 2, 3])


class Frames(unittest.TestCase):
    def test_limits(self):
        self.assertEqual((MOST_PAYLOAD, FRAME_HEAD), (65535, 6))

    def test_examples_of_the_interface(self):
        self.assertEqual(frame([7]), [1, 0, 9, 1, 0, 0, 7])
        self.assertEqual(read_frames([1, 0, 9, 1, 0, 0, 7, 1, 0, 9]), ([[7]], 7))

    def test_lengths(self):
        for length, low, high in ((0, 0, 0), (1, 1, 0), (255, 255, 0), (256, 0, 1), (65535, 255, 255)):
            payload = row_of(length)
            octets = frame(payload)
            self.assertEqual(octets[:2], [low, high])
            told = [by_powers(payload) // 256 ** place % 256 for place in range(4)]
            self.assertEqual(octets[2:6], told)
            self.assertEqual(octets[6:], payload)
            self.assertEqual(read_frames(octets), ([payload], length + 6))
            self.assertEqual(read_frames(octets[:-1]), ([], 0))

    def test_the_payload_stays_and_lists_are_new(self):
        payload = [1, 2]
        frame(payload).append(3)
        self.assertEqual(payload, [1, 2])
        octets = frame([1, 2])
        payloads, _ = read_frames(octets)
        payloads[0].append(9)
        self.assertEqual(octets, frame([1, 2]))

    def test_nothing_there(self):
        self.assertEqual(read_frames([]), ([], 0))


class ReadFrames(unittest.TestCase):
    PAYLOADS = [[7, 8], [], [255, 0, 1], [0]]

    def setUp(self):
        self.octets = [octet for payload in self.PAYLOADS for octet in frame(payload)]
        self.ends = [0, 8, 14, 23, 30]

    def test_all_whole(self):
        self.assertEqual(read_frames(self.octets), (self.PAYLOADS, 30))

    def test_cut_off_anywhere(self):
        for length in range(len(self.octets) + 1):
            whole = len([end for end in self.ends[1:] if end <= length])
            self.assertEqual(read_frames(self.octets[:length]), (self.PAYLOADS[:whole], self.ends[whole]))

    def test_one_octet_replaced(self):
        for at in range(len(self.octets)):
            whole = len([end for end in self.ends[1:] if end <= at])
            for wrong in range(256):
                if wrong != self.octets[at]:
                    octets = self.octets[:at] + [wrong] + self.octets[at + 1:]
                    self.assertEqual(read_frames(octets), (self.PAYLOADS[:whole], self.ends[whole]), (at, wrong))

    def test_octets_behind_that_are_no_frame(self):
        for behind in ([0], [0] * 6, [0] * 100, [255] * 6, [1, 0, 9, 1, 0, 0, 8], [1, 0, 9, 1, 0, 0]):
            self.assertEqual(read_frames(self.octets + behind), (self.PAYLOADS, 30))

    def test_a_whole_frame_behind_one_that_is_not(self):
        self.assertEqual(read_frames([9, 0, 9, 1] + self.octets), ([], 0))

    def test_an_empty_payload(self):
        self.assertEqual(frame([]), [0, 0, 1, 0, 0, 0])
        self.assertEqual(read_frames([0, 0, 1, 0, 0, 0] * 3), ([[], [], []], 18))

    def test_the_list_stays(self):
        before = list(self.octets)
        read_frames(self.octets)
        self.assertEqual(self.octets, before)
