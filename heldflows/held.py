"""A life of a flow at an agent (points 302 to 306)."""

from heldflows.app import answered, first_state
from heldflows.ends import End, end_of


class Held:
    """A life that an agent holds: an end, the app that answers, and whether the client was met."""

    def __init__(self, flow, life):
        self._flow = flow
        self._life = life
        self._end = End()
        self._state = first_state(flow)
        self._eaten = []
        self._met = 0

    def take(self, packet):
        """Takes an `open` of the flow or an `up` of the life; returns the list of the packets to send."""
        if packet[0] == "open":
            return [("hello", self._flow, self._life)]
        offset, data, last, taken = packet[3:]
        self._met = 1
        self._eat(self._end.take(offset, data, last, taken))
        if self._end.has_end():
            self._end.close()
        return []

    def tick(self):
        """Returns the list of the packets to send now."""
        packets = []
        if self._met == 0:
            packets.append(("hello", self._flow, self._life))
        for segment in self._end.due():
            packets.append(("down", self._flow, self._life) + segment)
        return packets

    def picture(self):
        """Returns what `held_of` needs beside the flow and the life."""
        return tuple(self._eaten), self._met, self._end.picture()

    def flow(self):
        """Returns the flow."""
        return self._flow

    def life(self):
        """Returns the life."""
        return self._life

    def has_met(self):
        """Tells whether the client was met."""
        return self._met == 1

    def eaten(self):
        """Returns the tuple of all bytes that the app has read, also before the life was moved."""
        return tuple(self._eaten)

    def _eat(self, data):
        self._state, answers = answered(self._state, data)
        self._eaten.extend(data)
        self._end.write(answers)


def held_of(flow, life, picture):
    """Returns a new held flow that goes on as the one that gave the picture."""
    eaten, met, end = picture
    # The picture does not have the state of the app, since what the app has read tells it.
    state, _ = answered(first_state(flow), eaten)
    held = Held(flow, life)
    held._end = end_of(end)
    held._state = state
    held._eaten = list(eaten)
    held._met = met
    return held
