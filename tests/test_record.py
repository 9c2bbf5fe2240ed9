"""Point [42]: what updates make."""

import unittest

from crosskeep.errors import Malformed
from crosskeep.ledger.record import Record, record_of
from crosskeep.packing.packs import pack

ENTRY = ("batch", (("x", 1), ("y", None)))
UPDATES = [
    ("promise", 1, (1, 2)),
    ("accept", 1, (1, 2), ENTRY),
    ("promise", 1, (3, 0)),
    ("chosen", 1, ENTRY),
    ("chosen", 2, ("members", (0, 1))),
    ("accept", 3, (1, 1), ENTRY),
    ("accept", 3, (2, 0), ("members", (4,))),
    ("promise", 3, (2, 6)),
]


def fields(record):
    return (list(record.row), record.upto, record.acceptor.promised, record.acceptor.accepted)


STATES = [
    ([], 0, (0, 0), None),
    ([], 0, (1, 2), None),
    ([], 0, (1, 2), ((1, 2), ENTRY)),
    ([], 0, (3, 0), ((1, 2), ENTRY)),
    ([ENTRY], 1, (0, 0), None),
    ([ENTRY, ("members", (0, 1))], 2, (0, 0), None),
    ([ENTRY, ("members", (0, 1))], 2, (1, 1), ((1, 1), ENTRY)),
    ([ENTRY, ("members", (0, 1))], 2, (2, 0), ((2, 0), ("members", (4,)))),
    ([ENTRY, ("members", (0, 1))], 2, (2, 6), ((2, 0), ("members", (4,)))),
]


class Records(unittest.TestCase):
    def test_update_by_update(self):
        record = Record()
        for update, before, after in zip(UPDATES, STATES, STATES[1:]):
            self.assertEqual(fields(record), before)
            self.assertIsNone(record.do(update))
            self.assertEqual(fields(record), after)

    def test_of_payloads(self):
        payloads = [pack(update) for update in UPDATES]
        for count in range(len(payloads) + 1):
            self.assertEqual(fields(record_of(payloads[:count])), STATES[count])
        self.assertEqual(payloads, [pack(update) for update in UPDATES])
        self.assertIsInstance(record_of([]), Record)

    def test_payloads_that_are_no_packs(self):
        with self.assertRaises(Malformed):
            record_of([pack(UPDATES[0]), [4, 1]])

    def test_commands_as_deep_as_packable_data_may_be_and_deeper(self):
        for depth in (1, 36, 37, 38, 39, 40, 41, 50):
            command = (10 ** 18 + depth,)
            for _ in range(depth - 1):
                command = (command,)
            entry = ("batch", (command, ("x",)))
            accepted = record_of([pack(("accept", 1, (1, 2), entry))])
            self.assertEqual(fields(accepted), ([], 0, (1, 2), ((1, 2), entry)), depth)
            chosen = record_of([pack(("chosen", 1, entry))])
            self.assertEqual(fields(chosen), ([entry], 1, (0, 0), None), depth)

    def test_a_new_acceptor_for_each_slot(self):
        record = Record()
        record.do(UPDATES[0])
        first = record.acceptor
        record.do(("chosen", 1, ENTRY))
        self.assertEqual((first.promised, record.acceptor.promised), ((1, 2), (0, 0)))

    def test_records_are_apart(self):
        first, second = Record(), Record()
        for update in UPDATES:
            first.do(update)
        self.assertEqual(fields(second), STATES[0])

    def test_forks_change_apart(self):
        for count in range(len(UPDATES) + 1):
            record = record_of([pack(update) for update in UPDATES[:count]])
            twin = record.fork()
            self.assertEqual(fields(twin), STATES[count])
            for update in UPDATES[count:]:
                twin.do(update)
            self.assertEqual(fields(record), STATES[count])
            self.assertEqual(fields(twin), STATES[-1])


if __name__ == "__main__":
    unittest.main()
