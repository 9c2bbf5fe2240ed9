"""Points [77] and [78]: clients and their calls."""

import unittest

from crosskeep.clients.client import Client, OpenCall

RANGES = (("", 1), ("h", 2), ("p", 3))
FIRST = [("", "h", 1, 1), ("h", "p", 2, 1), ("p", None, 3, 1)]
DEAL = ((("q", 1), ("i", None)), (("put", "q", 2), ("get", "a"), ("del", "zz")))
PLACES = (("a", 1), ("i", 2), ("q", 3), ("zz", 3))


def fields(client):
    call = client.call
    return (list(client.beliefs), client.number, call and (call.number, call.deal, call.places))


class OpenCalls(unittest.TestCase):
    def test_fields_home_and_request(self):
        call = OpenCall(7, DEAL, PLACES)
        self.assertEqual((call.number, call.deal, call.places), (7, DEAL, PLACES))
        self.assertEqual(call.home, 1)
        self.assertEqual(call.request(), ("request", 7, DEAL, PLACES))

    def test_the_home_is_the_cell_of_the_first_place(self):
        for cell in (2, 3, 4):
            self.assertEqual(OpenCall(1, DEAL, (("a", cell),) + PLACES[1:]).home, cell)


class Begins(unittest.TestCase):
    def test_at_first(self):
        self.assertEqual(fields(Client(RANGES)), (FIRST, 0, None))

    def test_places_of_all_keys_ascending(self):
        client = Client(RANGES)
        self.assertIsNone(client.begin(DEAL))
        self.assertIsInstance(client.call, OpenCall)
        self.assertEqual(fields(client), (FIRST, 1, (1, DEAL, PLACES)))

    def test_numbers_go_on(self):
        client = Client(RANGES)
        for number in (1, 2, 3):
            client.begin(DEAL)
            self.assertEqual((client.number, client.call.number), (number, number))
            client.hear(number, ("busy",))
        self.assertEqual(fields(client), (FIRST, 3, None))

    def test_clients_are_apart(self):
        first, second = Client(RANGES), Client(RANGES)
        first.begin(DEAL)
        first.hear(1, ("moved", (("", None, 4, 9),)))
        self.assertEqual(fields(second), (FIRST, 0, None))


class Hears(unittest.TestCase):
    def asking(self):
        client = Client(RANGES)
        client.begin(DEAL)
        client.hear(1, ("busy",))
        client.begin(DEAL)
        return client

    def test_an_answer_closes_the_call(self):
        for answer in (("done", (1, None)), ("unheld", (5,)), ("busy",)):
            client = self.asking()
            self.assertIs(client.hear(2, answer), True)
            self.assertEqual(fields(client), (FIRST, 2, None))

    def test_another_number_changes_nothing(self):
        client = self.asking()
        before = fields(client)
        for number in (0, 1, 3):
            for answer in (("done", ()), ("moved", (("", None, 4, 9),))):
                self.assertIs(client.hear(number, answer), False)
                self.assertEqual(fields(client), before)

    def test_without_an_open_call(self):
        client = self.asking()
        client.hear(2, ("busy",))
        for number in (0, 1, 2, 3):
            self.assertIs(client.hear(number, ("moved", (("", None, 4, 9),))), False)
        self.assertEqual(fields(client), (FIRST, 2, None))
        self.assertIs(Client(RANGES).hear(0, ("busy",)), False)

    def test_moved(self):
        client = self.asking()
        self.assertIs(client.hear(2, ("moved", (("h", "j", 3, 2), ("p", None, 1, 3)))), True)
        self.assertEqual(client.beliefs, [("", "h", 1, 1), ("h", "j", 3, 2), ("j", "p", 2, 1), ("p", None, 1, 3)])
        self.assertIsNone(client.call)

    def test_hints_in_their_order(self):
        for hints, cell in (((3, 4), 3), ((4, 3), 4)):
            client = self.asking()
            client.hear(2, ("moved", tuple(("h", "p", cell, 2) for cell in hints)))
            self.assertEqual(client.beliefs[1], ("h", "p", cell, 2))

    def test_the_next_call_goes_where_it_learned(self):
        client = self.asking()
        client.hear(2, ("moved", (("", "b", 3, 2), ("q", "r", 4, 2))))
        client.begin(DEAL)
        self.assertEqual(client.call.places, (("a", 3), ("i", 2), ("q", 4), ("zz", 3)))
        self.assertEqual(client.call.home, 3)

    def test_the_request_stays_while_the_client_learns(self):
        client = self.asking()
        request = client.call.request()
        client.beliefs = [("", None, 4, 9)]
        client.hear(1, ("moved", (("", None, 2, 99),)))
        self.assertEqual(client.call.request(), request)
        self.assertEqual((request, client.call.home), (("request", 2, DEAL, PLACES), 1))


if __name__ == "__main__":
    unittest.main()
