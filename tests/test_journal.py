"""Points [27] to [29]: the journal."""

import unittest
from random import Random

from crosskeep.journal.journal import Journal, read_journal
from crosskeep.packing.frames import frame, read_frames


class Disk:
    """The journal as the document tells it: a row of octets, and how many of them are synced."""

    def __init__(self):
        self.octets = []
        self.synced = 0

    def append(self, payload):
        self.octets = self.octets + frame(payload)

    def sync(self):
        self.synced = len(self.octets)

    def crash(self, count):
        self.octets = self.octets[:self.synced + count]
        self.octets = self.octets[:read_frames(self.octets)[1]]
        self.sync()


def counts(journal):
    return (journal.frame_count, journal.synced_frames, journal.octet_count, journal.synced_octets)


def state(journal):
    return (counts(journal), journal.payloads(), journal.image())


def journal_of(synced, unsynced):
    journal = Journal()
    for payload in synced:
        journal.append(payload)
    journal.sync()
    for payload in unsynced:
        journal.append(payload)
    return journal


class Journals(unittest.TestCase):
    def test_example_of_the_interface(self):
        journal = Journal()
        journal.append([7])
        journal.sync()
        journal.append([8, 9])
        journal.append([])
        self.assertEqual(counts(journal), (3, 1, 21, 7))
        journal.crash(13)
        self.assertEqual(journal.payloads(), [[7], [8, 9]])
        self.assertEqual(journal.octet_count, 15)

    def test_a_new_one(self):
        self.assertEqual(state(Journal()), ((0, 0, 0, 0), [], []))

    def test_append_and_sync(self):
        journal = Journal()
        journal.append([1, 2, 3])
        self.assertEqual(state(journal), ((1, 0, 9, 0), [[1, 2, 3]], frame([1, 2, 3])))
        journal.append([])
        self.assertEqual(counts(journal), (2, 0, 15, 0))
        journal.sync()
        self.assertEqual(state(journal), ((2, 2, 15, 15), [[1, 2, 3], []], frame([1, 2, 3]) + frame([])))
        journal.sync()
        self.assertEqual(counts(journal), (2, 2, 15, 15))

    def test_great_payloads(self):
        for length in (0, 255, 256, 65535):
            journal = journal_of([[5] * length], [[6] * length])
            self.assertEqual(counts(journal), (2, 1, 2 * length + 12, length + 6))
            journal.crash(length + 5)
            self.assertEqual(journal.payloads(), [[5] * length])

    def test_lists_that_are_passed_or_returned(self):
        journal = Journal()
        payload = [1, 2]
        journal.append(payload)
        payload.append(3)
        journal.payloads().append([9])
        journal.payloads()[0].append(9)
        journal.image().append(9)
        self.assertEqual(state(journal), ((1, 0, 8, 0), [[1, 2]], frame([1, 2])))
        self.assertEqual(payload, [1, 2, 3])


class Crashes(unittest.TestCase):
    SYNCED = [[7], []]
    UNSYNCED = [[8, 9], [], [1, 2, 3]]
    ENDS = [8, 14, 23]

    def test_each_count(self):
        for count in list(range(40)) + [10 ** 6]:
            journal = journal_of(self.SYNCED, self.UNSYNCED)
            journal.crash(count)
            whole = len([end for end in self.ENDS if end <= count])
            payloads = self.SYNCED + self.UNSYNCED[:whole]
            octets = [octet for payload in payloads for octet in frame(payload)]
            size = len(octets)
            self.assertEqual(state(journal), ((2 + whole, 2 + whole, size, size), payloads, octets), count)

    def test_bounds_of_frames(self):
        for count, whole in ((0, 0), (7, 0), (8, 1), (9, 1), (13, 1), (14, 2), (15, 2), (22, 2), (23, 3), (24, 3)):
            journal = journal_of(self.SYNCED, self.UNSYNCED)
            journal.crash(count)
            self.assertEqual(journal.frame_count, 2 + whole, count)

    def test_nothing_unsynced(self):
        for count in (0, 1, 7, 100):
            journal = journal_of(self.SYNCED, [])
            before = state(journal)
            journal.crash(count)
            self.assertEqual(state(journal), before)
            empty = Journal()
            empty.crash(count)
            self.assertEqual(state(empty), state(Journal()))

    def test_the_rest_is_synced(self):
        journal = journal_of(self.SYNCED, self.UNSYNCED)
        journal.crash(10)
        journal.crash(0)
        self.assertEqual(journal.payloads(), self.SYNCED + [[8, 9]])
        journal.append([4])
        journal.crash(6)
        self.assertEqual(journal.payloads(), self.SYNCED + [[8, 9]])
        journal.append([5])
        journal.crash(7)
        self.assertEqual(journal.payloads(), self.SYNCED + [[8, 9], [5]])

    def test_as_a_row_of_octets(self):
        random = Random(4)
        journal = Journal()
        disk = Disk()
        for _ in range(2000):
            step = random.randrange(10)
            if step < 6:
                payload = [random.randrange(256) for _ in range(random.randrange(12))]
                journal.append(payload)
                disk.append(payload)
            elif step < 8:
                journal.sync()
                disk.sync()
            else:
                count = random.randrange(60)
                journal.crash(count)
                disk.crash(count)
            self.assertEqual((journal.octet_count, journal.synced_octets), (len(disk.octets), disk.synced))
            self.assertEqual(journal.synced_frames, len(read_frames(disk.octets[:disk.synced])[0]))
            if step > 7:
                self.assertEqual(journal.image(), disk.octets)
                self.assertEqual(journal.payloads(), read_frames(disk.octets)[0])


class Forks(unittest.TestCase):
    def test_same_state(self):
        journal = journal_of([[7]], [[8, 9]])
        self.assertIsInstance(journal.fork(), Journal)
        self.assertEqual(state(journal.fork()), state(journal))

    def test_each_changed_apart_from_the_other(self):
        for change in (lambda one: one.append([1]), lambda one: one.sync(), lambda one: one.crash(0)):
            journal = journal_of([[7]], [[8, 9]])
            before = state(journal)
            twin = journal.fork()
            change(twin)
            self.assertEqual(state(journal), before)
            self.assertNotEqual(state(twin), before)
            other = journal.fork()
            change(journal)
            self.assertEqual(state(other), before)
            self.assertEqual(state(journal), state(twin))


class ReadJournal(unittest.TestCase):
    OCTETS = frame([7]) + frame([]) + frame([8, 9])

    def test_whole_frames(self):
        journal = read_journal(self.OCTETS)
        self.assertIsInstance(journal, Journal)
        self.assertEqual(state(journal), ((3, 3, 21, 21), [[7], [], [8, 9]], self.OCTETS))

    def test_an_empty_disk(self):
        self.assertEqual(state(read_journal([])), state(Journal()))

    def test_an_image_that_ends_within_a_frame(self):
        for length in range(22):
            whole = [7, 13, 21]
            payloads = [[7], [], [8, 9]][:len([end for end in whole if end <= length])]
            journal = read_journal(self.OCTETS[:length])
            self.assertEqual(journal.payloads(), payloads, length)
            self.assertEqual(journal.synced_frames, len(payloads))
            self.assertEqual(journal.image(), self.OCTETS[:journal.octet_count])

    def test_a_wrong_octet_in_the_middle(self):
        for at in range(7, 13):
            octets = self.OCTETS[:at] + [self.OCTETS[at] ^ 1] + self.OCTETS[at + 1:]
            self.assertEqual(state(read_journal(octets)), ((1, 1, 7, 7), [[7]], frame([7])), at)

    def test_what_comes_behind_it(self):
        octets = self.OCTETS + [1, 2]
        journal = read_journal(octets)
        journal.append([5])
        self.assertEqual(counts(journal), (4, 3, 28, 21))
        self.assertEqual(journal.image(), self.OCTETS + frame([5]))
        self.assertEqual(octets, self.OCTETS + [1, 2])
