"""Point [81]: endpoints."""

import unittest

from crosskeep.world.endpoints import CLIENTS, MOST_CELLS, cell_at, endpoint_of, index_at, is_client


class Endpoints(unittest.TestCase):
    def test_names(self):
        self.assertEqual((CLIENTS, MOST_CELLS), (4, 4))

    def test_nodes(self):
        self.assertEqual([endpoint_of(1, 0), endpoint_of(1, 6), endpoint_of(2, 3), endpoint_of(4, 6)], [10, 16, 23, 46])
        for cell in range(1, 5):
            for index in range(7):
                endpoint = endpoint_of(cell, index)
                self.assertEqual((cell_at(endpoint), index_at(endpoint)), (cell, index))
                self.assertIs(is_client(endpoint), False)

    def test_clients(self):
        for client in range(4):
            self.assertEqual((cell_at(client), index_at(client)), (0, client))
            self.assertIs(is_client(client), True)

    def test_neither(self):
        for endpoint in (-1, 4, 5, 9, 10, 40, 47):
            self.assertIs(is_client(endpoint), False, endpoint)


if __name__ == "__main__":
    unittest.main()
