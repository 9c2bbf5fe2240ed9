"""What a keeper holds for deals: locks, holds, ended numbers and refusals (points [61] and [67])."""


class Hold:
    """The home of a deal, and what trying its part told."""

    def __init__(self, home_cell, tried):
        self.home_cell = home_cell
        self.tried = tried


class Holds:
    """The holds of a cell by the names of their deals, and what was ended or refused for each client."""

    def __init__(self):
        self.locks = {}
        self.by_name = {}
        self._ended = {}
        self._refusals = {}

    def has(self, client, number):
        """Return True if the deal has a hold, otherwise False."""
        return (client, number) in self.by_name

    def locks_one_of(self, keys):
        """Return True if one of the keys is locked, otherwise False."""
        return any([key in self.locks for key in keys])

    def ended_number(self, client):
        """Return the greatest number of a deal of this client that was ended or refused here."""
        return self._ended.get(client, 0)

    def verdict_of(self, client, number):
        """Return the verdict on the deal that is still known, or None."""
        if self.has(client, number):
            return ("tried", self.by_name[(client, number)].tried)
        refused, verdict = self._refusals.get(client, (0, None))
        return verdict if refused == number else None

    def hold(self, home, client, number, keys, tried):
        """Lock the keys for a deal, which has a hold then."""
        self.by_name[(client, number)] = Hold(home, tried)
        for key in keys:
            self.locks[key] = (client, number)

    def refuse(self, client, number, verdict):
        """Note the refusal of a deal."""
        self._refusals[client] = (number, verdict)
        self._ended[client] = number

    def end(self, client, number):
        """End the part of a deal; return the writes that it would make."""
        writes = self.writes_of(client, number)
        self.by_name.pop((client, number), None)
        self.locks = {key: name for key, name in self.locks.items() if name != (client, number)}
        self._ended[client] = max(self.ended_number(client), number)
        return writes

    def writes_of(self, client, number):
        """Return the writes of what was tried of a deal that has a hold, or an empty tuple."""
        return self.by_name[(client, number)].tried[3] if self.has(client, number) else ()
