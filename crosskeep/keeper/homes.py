"""Deals at their home: what other cells found, and what became of it (points [63] to [66])."""

from crosskeep.data.parts import join_parts, part_of


class HomeDeal:
    """A deal that waits for other cells. It has their parts, and what trying the own part told, or None."""

    def __init__(self, parts, tried):
        self.parts = parts
        self.tried = tried
        self.outcome = None
        self.rest = ()
        self._verdicts = {}

    def awaits(self, cell):
        """Return True if the verdict of this cell is still to come, otherwise False."""
        return self.outcome is None and cell in self.parts and cell not in self._verdicts

    def awaited(self):
        """Return a list of the other cells that gave no verdict, ascending."""
        return [cell for cell in sorted(self.parts) if cell not in self._verdicts]

    def hear(self, cell, verdict):
        """Keep the verdict of a cell; return True if the deal got its outcome by this, otherwise False."""
        self._verdicts[cell] = verdict
        if is_refusal(verdict):
            self.outcome = verdict
        elif not self.awaited():
            tried = [what for word, what in list(self._verdicts.values())]
            self.outcome = join_parts(tried if self.tried is None else [self.tried] + tried)
        if self.outcome is None:
            return False
        self.rest = tuple([other for other in sorted(self.parts) if not self._refused(other)])
        return True

    def _refused(self, cell):
        return cell in self._verdicts and is_refusal(self._verdicts[cell])

    def strike(self, cell):
        """Let a cell leave the rest."""
        self.rest = tuple([other for other in self.rest if other != cell])

    def done(self):
        """Return 1 if the deal is done, otherwise 0."""
        return 1 if self.outcome[0] == "done" else 0


def is_refusal(verdict):
    """Return True if a verdict is no part that was tried, otherwise False."""
    return verdict[0] != "tried"


def parts_by_cell(deal, places):
    """Return a dict from the cells of the places to the parts of the deal for their keys."""
    cells = sorted(set([cell for key, cell in places]))
    return {cell: part_of(deal, [key for key, other in places if other == cell]) for cell in cells}
