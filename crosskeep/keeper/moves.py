"""Handings over: which began here, and which came here (points [69] to [71])."""


class Move:
    """A handing over that began here: the target, and what it brings there."""

    def __init__(self, target, brought):
        self.target = target
        self.brought = brought


class Moves:
    """The movers that a cell knows."""

    def __init__(self):
        # A mover that was refused has None here instead of its move.
        self._begun = {}
        self._arrived = {}
        self._taken = {}

    def knows(self, mover):
        """Return True if the mover is known here, otherwise False."""
        return mover in self._begun

    def refused(self, mover):
        """Return True if the mover is refused here, otherwise False."""
        return self.knows(mover) and self._begun[mover] is None

    def begin(self, mover, target, brought):
        """Note a handing over that begins here."""
        self._begun[mover] = Move(target, brought)

    def refuse(self, mover):
        """Note a handing over that is refused."""
        self._begun[mover] = None

    def is_leaving(self, mover):
        """Return True if the mover began here and no news of its arrival came, otherwise False."""
        return self.knows(mover) and not self.refused(mover) and mover not in self._arrived

    def leaving(self):
        """Return a list of the movers of whose arrival no news came, ascending."""
        return [mover for mover in sorted(self._begun) if self.is_leaving(mover)]

    def target_of(self, mover):
        """Return the target of a mover that began here."""
        return self._begun[mover].target

    def brought_by(self, mover):
        """Return what a mover that began here brings."""
        return self._begun[mover].brought

    def arrive(self, mover):
        """Note the news that a mover was taken."""
        self._arrived[mover] = True

    def take(self, mover):
        """Note that a mover was taken here."""
        self._taken[mover] = True

    def took(self, mover):
        """Return True if the mover was taken here, otherwise False."""
        return mover in self._taken
