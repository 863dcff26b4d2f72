"""Messages on their way between sites (points 39 and 42)."""

from leatwork.errors import NotReady

# The message of a site that has failed.
FAILURE = "failed"


class Mail:
    """For each pair of two sites the messages on their way from the first one to the second one, the oldest first."""

    def __init__(self, sites):
        self._sites = sites
        self._rows = {}

    def send(self, sender, message):
        """Sends a message, which nobody modifies, to each other site."""
        for receiver in range(self._sites):
            if receiver != sender:
                self._rows.setdefault((sender, receiver), []).append(message)

    def pairs(self):
        """Returns the ascending list of the pairs between which there are messages."""
        return sorted([pair for pair, row in self._rows.items() if row])

    def pending(self):
        """Returns the ascending list of the tuples of a sender, a receiver and the number of messages."""
        return [(sender, receiver, len(self._rows[(sender, receiver)])) for sender, receiver in self.pairs()]

    def take(self, sender, receiver):
        """Takes the oldest message away and returns it; raises NotReady if there is none."""
        row = self._rows.get((sender, receiver), [])
        if not row:
            raise NotReady("no message is on its way")
        return row.pop(0)

    def copy(self):
        """Returns mail that behaves as this, independent of it."""
        other = Mail(self._sites)
        other._rows = {pair: list(self._rows[pair]) for pair in self._rows}
        return other
