"""The plain store, which does deals one by one (points [14] and [17])."""

from crosskeep.data.deals import do_deal


class Store:
    """Rows, and nothing else."""

    def __init__(self, rows=None):
        self.rows = {} if rows is None else dict(rows)

    def do(self, deal):
        """Do a deal and return its answer."""
        return do_deal(self.rows, deal)

    def fork(self):
        """Return a new Store with the same rows."""
        return Store(self.rows)
