"""The history: which calls began, and which answers closed them (point [79])."""


class CallRow:
    """What is known of a call: the event at which it was asked, and that at which it was answered, or None."""

    def __init__(self, client, number, deal, asked):
        self.client = client
        self.number = number
        self.deal = deal
        self.asked = asked
        self.answered = None
        self.answer = None

    def as_row(self):
        """Return the tuple (client, number, deal, asked, answered, answer)."""
        return (self.client, self.number, self.deal, self.asked, self.answered, self.answer)


class History:
    """The calls in the order in which they began, and the number of events so far."""

    def __init__(self):
        self.events = 0
        self._calls = []
        self._by_name = {}

    def ask(self, client, number, deal):
        """Note a call that begins."""
        row = CallRow(client, number, deal, self.events)
        self._calls.append(row)
        self._by_name[(client, number)] = row
        self.events += 1

    def close(self, client, number, answer):
        """Note an answer that closes a call."""
        row = self._by_name[(client, number)]
        row.answered = self.events
        row.answer = answer
        self.events += 1

    def rows(self):
        """Return a list of the tuples (client, number, deal, asked, answered, answer) of all calls."""
        return [row.as_row() for row in self._calls]
