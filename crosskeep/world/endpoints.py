"""Endpoints: the numbers by which nodes and clients are told as senders and receivers (point [81])."""

CLIENTS = 4
MOST_CELLS = 4
NODES_OF_CELL = 10


def endpoint_of(cell, index):
    """Return the endpoint of a node."""
    return NODES_OF_CELL * cell + index


def cell_at(endpoint):
    """Return the cell of a node, or 0 for a client."""
    return endpoint // NODES_OF_CELL


def index_at(endpoint):
    """Return the index of a node, or the number of a client."""
    return endpoint % NODES_OF_CELL


def is_client(endpoint):
    """Return True for a client, otherwise False."""
    return 0 <= endpoint < CLIENTS
