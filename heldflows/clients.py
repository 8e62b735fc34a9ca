"""The client (points 400 to 405)."""

from heldflows.ends import End
from heldflows.errors import BadCall
from heldflows.forms import is_bytes, is_integer
from heldflows.limits import MOST_COUNT, MOST_STREAM
from heldflows.messages import is_message

OPENING = "opening"
OPEN = "open"
ENDED = "ended"
GONE = "gone"


class ClientFlow:
    """A flow as its client sees it."""

    def __init__(self, flow):
        self._flow = flow
        self._state = OPENING
        self._life = None
        self._end = End()
        self._written = ()
        self._is_closed = False
        self._read = ()

    def write(self, data):
        """Writes bytes into the flow; raises BadCall if this is not allowed."""
        if self._is_closed or not is_bytes(data) or len(self._written) + len(data) > MOST_STREAM:
            raise BadCall()
        self._written += data
        self._end.write(data)

    def close(self):
        """Ends what is written; raises BadCall if the flow was closed."""
        if self._is_closed:
            raise BadCall()
        self._is_closed = True
        self._end.close()

    def read(self):
        """Returns the tuple of all bytes that were read."""
        return self._read

    def written(self):
        """Returns the tuple of all bytes that were written."""
        return self._written

    def is_closed(self):
        """Tells whether the flow was closed."""
        return self._is_closed

    def state(self):
        """Returns the state of the flow."""
        return self._state

    def life(self):
        """Returns the life that was adopted, or None."""
        return self._life

    def receive(self, packet):
        """Takes a packet that goes down; returns the list of the packets that it answers."""
        life = packet[2]
        if self._state == OPENING:
            self._adopt(packet[0], life)
            return []
        if self._state == OPEN and life == self._life:
            return self._take(packet)
        if packet[0] == "gone":
            return []
        return [("no", self._flow, life)]

    def tick(self):
        """Returns the list of the packets to send now."""
        if self._state == OPENING:
            return [("open", self._flow)]
        if self._state == OPEN:
            return [("up", self._flow, self._life) + segment for segment in self._end.due()]
        return []

    def _adopt(self, word, life):
        # All other packets are those of a life that the client was not told of yet.
        if word == "hello":
            self._state = OPEN
            self._life = life

    def _take(self, packet):
        if packet[0] == "gone":
            self._state = GONE
        if packet[0] == "down":
            offset, data, last, taken = packet[3:]
            self._read += self._end.take(offset, data, last, taken)
            if self._end.has_end():
                self._state = ENDED
                return [("no", self._flow, self._life)]
        return []


class Client:
    """A client, which opens flows, writes into them and reads what the apps answer."""

    def __init__(self, client):
        self._client = client
        self._flows = []

    def open_flow(self):
        """Opens a flow and returns its number; raises BadCall if there are too many."""
        if len(self._flows) == MOST_COUNT:
            raise BadCall()
        number = len(self._flows) + 1
        self._flows.append(ClientFlow((self._client, number)))
        return number

    def write(self, number, data):
        """Writes bytes into a flow; raises BadCall if this is not allowed."""
        self._opened(number).write(data)

    def close(self, number):
        """Ends what is written into a flow; raises BadCall if the flow was closed."""
        self._opened(number).close()

    def read(self, number):
        """Returns the tuple of all bytes that were read of a flow."""
        return self._opened(number).read()

    def written(self, number):
        """Returns the tuple of all bytes that were written into a flow."""
        return self._opened(number).written()

    def is_closed(self, number):
        """Tells whether a flow was closed."""
        return self._opened(number).is_closed()

    def state(self, number):
        """Returns the state of a flow."""
        return self._opened(number).state()

    def life(self, number):
        """Returns the life that a flow has adopted, or None."""
        return self._opened(number).life()

    def count(self):
        """Returns the number of flows that were opened."""
        return len(self._flows)

    def receive(self, packet):
        """Takes any value; returns the list of the packets that it answers."""
        if not is_message(("client", self._client), packet):
            return []
        number = packet[1][1]
        if number > len(self._flows):
            return []
        return self._flows[number - 1].receive(packet)

    def tick(self):
        """Returns the list of the packets to send now, for the flows in ascending order."""
        packets = []
        for flow in self._flows:
            packets.extend(flow.tick())
        return packets

    def _opened(self, number):
        if not is_integer(number, 1, len(self._flows)):
            raise BadCall()
        return self._flows[number - 1]
