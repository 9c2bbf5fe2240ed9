"""Point [34]: acceptors."""

import unittest

from crosskeep.voting.acceptor import Acceptor
from crosskeep.voting.ballots import NO_BALLOT

ENTRY = ("batch", (("x",),))


def fields(acceptor):
    return (acceptor.promised, acceptor.accepted)


class Acceptors(unittest.TestCase):
    def test_at_first(self):
        self.assertEqual(fields(Acceptor()), (NO_BALLOT, None))

    def test_made_with_fields(self):
        self.assertEqual(fields(Acceptor((3, 1))), ((3, 1), None))
        self.assertEqual(fields(Acceptor((3, 1), ((2, 0), ENTRY))), ((3, 1), ((2, 0), ENTRY)))
        self.assertEqual(fields(Acceptor(promised=(3, 1), accepted=((3, 1), "a"))), ((3, 1), ((3, 1), "a")))
        self.assertEqual(fields(Acceptor(accepted=((3, 1), "a"))), (NO_BALLOT, ((3, 1), "a")))

    def test_hears_what_is_not_below(self):
        acceptor = Acceptor((3, 2))
        for ballot, heard in (
            ((3, 2), True), ((3, 1), False), ((3, 3), True), ((2, 2), False), ((4, 2), True),
            ((2, 6), False), ((4, 0), True), ((0, 0), False), ((10, 0), True),
        ):
            self.assertIs(acceptor.hears(ballot), heard, ballot)
        self.assertEqual(fields(acceptor), ((3, 2), None))

    def test_a_new_one_hears_all(self):
        for ballot in ((0, 0), (0, 1), (1, 0), (9999, 6)):
            self.assertIs(Acceptor().hears(ballot), True, ballot)

    def test_promise(self):
        acceptor = Acceptor((1, 0), ((1, 0), "a"))
        self.assertIsNone(acceptor.promise((2, 1)))
        self.assertEqual(fields(acceptor), ((2, 1), ((1, 0), "a")))
        acceptor.promise((2, 1))
        self.assertEqual(fields(acceptor), ((2, 1), ((1, 0), "a")))
        self.assertIs(acceptor.hears((2, 0)), False)

    def test_accept(self):
        acceptor = Acceptor((1, 0))
        self.assertIsNone(acceptor.accept((1, 0), ENTRY))
        self.assertEqual(fields(acceptor), ((1, 0), ((1, 0), ENTRY)))
        acceptor.accept((4, 1), "b")
        self.assertEqual(fields(acceptor), ((4, 1), ((4, 1), "b")))
        self.assertIs(acceptor.hears((4, 0)), False)
        self.assertIs(acceptor.hears((4, 1)), True)

    def test_forks_change_apart(self):
        acceptor = Acceptor((1, 0), ((1, 0), "a"))
        twin = acceptor.fork()
        self.assertIsInstance(twin, Acceptor)
        self.assertEqual(fields(twin), fields(acceptor))
        acceptor.promise((2, 0))
        twin.accept((3, 0), "b")
        self.assertEqual(fields(acceptor), ((2, 0), ((1, 0), "a")))
        self.assertEqual(fields(twin), ((3, 0), ((3, 0), "b")))


if __name__ == "__main__":
    unittest.main()
