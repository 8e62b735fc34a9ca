"""Muxes, which pass packets of clients on to agents (points 500, 503 and 504)."""

from heldflows.forms import bucket_of
from heldflows.limits import MOST_HOPS
from heldflows.messages import is_message
from heldflows.tables import Table


class Mux:
    """A mux, which keeps nothing but its table."""

    def __init__(self, number):
        self._number = number
        self._table = Table()

    def receive(self, message):
        """Takes any value; returns the list of what is sent, pairs of an address and a message."""
        if not is_message(("mux", self._number), message):
            return []
        if message[0] == "table":
            self._table.take(message[1])
            return []
        return self._pass_on(message)

    def forget(self):
        """Empties the table."""
        self._table.forget()

    def rows(self):
        """Returns the rows of the table."""
        return self._table.rows()

    def _pass_on(self, packet):
        bucket = bucket_of(packet[1])
        birth = self._table.birth(bucket)
        if birth is None:
            return []
        return [(("agent", birth[0]), ("wrap", bucket, MOST_HOPS, packet))]
