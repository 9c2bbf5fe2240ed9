"""Point [79]: events and the history."""

import unittest

from crosskeep.clients.history import History

DEAL = ((), (("get", "a"),))
OTHER = ((("a", 1),), ())


class Histories(unittest.TestCase):
    def test_at_first(self):
        history = History()
        self.assertEqual((history.events, history.rows()), (0, []))

    def test_open_calls(self):
        history = History()
        self.assertIsNone(history.ask(2, 1, DEAL))
        self.assertIsNone(history.ask(0, 1, OTHER))
        self.assertEqual(history.rows(), [(2, 1, DEAL, 0, None, None), (0, 1, OTHER, 1, None, None)])
        self.assertEqual(history.events, 2)

    def test_calls_that_are_answered(self):
        history = History()
        history.ask(2, 1, DEAL)
        history.ask(0, 1, OTHER)
        self.assertIsNone(history.close(0, 1, ("unheld", (None,))))
        history.ask(0, 2, DEAL)
        history.close(2, 1, ("busy",))
        history.close(0, 2, ("done", (None,)))
        self.assertEqual(history.rows(), [
            (2, 1, DEAL, 0, 4, ("busy",)), (0, 1, OTHER, 1, 2, ("unheld", (None,))), (0, 2, DEAL, 3, 5, ("done", (None,))),
        ])
        self.assertEqual(history.events, 6)

    def test_the_order_is_that_of_the_beginnings(self):
        history = History()
        for client in (3, 1, 2, 0):
            history.ask(client, 5, DEAL)
        for client in (0, 3, 2):
            history.close(client, 5, ("done", (client,)))
        self.assertEqual([row[:1] + row[3:] for row in history.rows()], [
            (3, 0, 5, ("done", (3,))), (1, 1, None, None), (2, 2, 6, ("done", (2,))), (0, 3, 4, ("done", (0,)))])

    def test_lists_that_are_returned_are_new(self):
        history = History()
        history.ask(2, 1, DEAL)
        rows = history.rows()
        rows.append("more")
        rows[0] = None
        history.close(2, 1, ("busy",))
        self.assertEqual(history.rows(), [(2, 1, DEAL, 0, 1, ("busy",))])

    def test_histories_are_apart(self):
        first, second = History(), History()
        first.ask(2, 1, DEAL)
        self.assertEqual((second.events, second.rows()), (0, []))


if __name__ == "__main__":
    unittest.main()
