"""What the controller keeps of a bucket (points 704 to 708)."""

EMPTY = "empty"
RECOVERING = "recovering"
GRANTING = "granting"
GIVING = "giving"
SETTLED = "settled"


class Bucket:
    """A bucket: its greatest version, its last settled row, and its phase, a tuple that begins with a word."""

    def __init__(self, number):
        self._number = number
        self._version = 0
        self._row = None
        self._phase = (EMPTY,)

    def version(self):
        """Returns the greatest version."""
        return self._version

    def row(self):
        """Returns the last settled row, or None."""
        return self._row

    def phase(self):
        """Returns the word of the phase."""
        return self._phase[0]

    def recover(self, births):
        """Asks these births for reports."""
        self._version += 1
        self._phase = (RECOVERING, births, births, ())

    def report(self, birth, version, rows):
        """Keeps a report, if it is waited for."""
        if self.phase() != RECOVERING or version != self._version:
            return
        word, births, waiting, reports = self._phase
        if birth in waiting:
            left = tuple([other for other in waiting if other != birth])
            self._phase = (word, births, left, reports + (rows,))

    def reports(self):
        """Returns the list of the reports if all are there, otherwise None."""
        if self.phase() != RECOVERING or len(self._phase[2]) > 0:
            return None
        return list(self._phase[3])

    def grant(self, receiver, directory):
        """Grants the bucket with this directory."""
        self._version += 1
        self._phase = (GRANTING, receiver, directory)

    def give(self, receiver):
        """Lets the birth with which the bucket is settled give it to the receiver."""
        self._version += 1
        self._phase = (GIVING, self._phase[1], receiver)

    def own(self, birth, version):
        """Settles the bucket with a birth to which it is granted or given with this version."""
        if version == self._version and birth == self.taker():
            self._phase = (SETTLED, birth)
            self._row = (self._number, version, birth)

    def taker(self):
        """Returns the birth to which the bucket is granted or given, or with which it is settled, or None."""
        if self.phase() in (GRANTING, SETTLED):
            return self._phase[1]
        if self.phase() == GIVING:
            return self._phase[2]
        return None

    def due(self):
        """Returns the list of what is sent at a tick, pairs of an address and a message."""
        if self.phase() == RECOVERING:
            _, births, waiting, _ = self._phase
            stop = ("stop", self._number, self._version, births)
            return [(("agent", agent), stop) for agent, _ in waiting]
        if self.phase() == GRANTING:
            _, receiver, directory = self._phase
            return [(("agent", receiver[0]), ("grant", None, receiver, self._number, self._version, directory))]
        if self.phase() == GIVING:
            _, giver, receiver = self._phase
            return [(("agent", giver[0]), ("give", giver, self._number, self._version, receiver))]
        return []
