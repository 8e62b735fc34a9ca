"""The lives that a birth of an agent knows (points 601, 604 and 608 to 611)."""

from heldflows.forms import bucket_of

HELD = "held"
FROZEN = "frozen"
HANDED = "handed"
ENDED = "ended"


class Known:
    """What is known of a life: one of the four states, its epoch, and where it is.

    The place is the birth that holds the life or to which it is handed, or None if the life ended here. The content
    is the `Held` of a life that is held, the picture of one that is frozen, and None for the others.
    """

    def __init__(self, status, epoch, place, content):
        self.status = status
        self.epoch = epoch
        self.place = place
        self.content = content

    def eaten_bytes(self):
        """Returns the bytes that the app has read, if the life is held or frozen, otherwise None."""
        if self.status == HELD:
            return self.content.eaten()
        if self.status == FROZEN:
            return self.content[0]
        return None


class Lives:
    """All lives that a birth knows, by their flows; each of them is in only one state."""

    def __init__(self, me):
        self._me = me
        self._flows = {}

    def known(self, flow, life):
        """Returns what is known of a life, or None."""
        return self._flows.get(flow, {}).get(life)

    def find(self, status, packet):
        """Returns what is known of the life in this state that a packet asks for, or None.

        An `open` asks for any life of its flow; the least one in this state is meant then.
        """
        lives = self._flows.get(packet[1], {})
        asked = sorted(lives) if packet[0] == "open" else [packet[2]]
        for life in asked:
            if life in lives and lives[life].status == status:
                return lives[life]
        return None

    def all_in(self, status):
        """Returns the list of the triples of a flow, a life and what is known of it, of a state, in ascending order."""
        return [row for row in self._all() if row[2].status == status]

    def rows(self, bucket):
        """Returns the tuple of the rows of a report of a bucket."""
        return tuple([
            (flow, life, known.epoch, known.place) for flow, life, known in self._all() if bucket_of(flow) == bucket])

    def corrected(self, rows):
        """Returns the tuple of the rows of a directory, corrected by what is known here."""
        found = []
        for row in rows:
            flow, life, epoch, _ = row
            known = self.known(flow, life)
            if known is None or known.epoch < epoch or (known.epoch == epoch and known.status != ENDED):
                found.append(row)
            elif known.status != ENDED:
                found.append((flow, life, known.epoch, known.place))
        return tuple(found)

    def hold(self, held, epoch):
        """Holds a life, whatever was known of it otherwise."""
        self._put(held.flow(), held.life(), Known(HELD, epoch, self._me, held))

    def freeze(self, flow, life, receiver):
        """Freezes a life that is held, to hand it to the receiver with the next epoch."""
        known = self.known(flow, life)
        self._put(flow, life, Known(FROZEN, known.epoch + 1, receiver, known.content.picture()))

    def hand_on(self, flow, life):
        """Takes it that a life that is frozen was handed on."""
        known = self.known(flow, life)
        self._put(flow, life, Known(HANDED, known.epoch, known.place, None))

    def end(self, flow, life):
        """Ends a life that is held."""
        self._put(flow, life, Known(ENDED, self.known(flow, life).epoch, None, None))

    def _put(self, flow, life, known):
        self._flows.setdefault(flow, {})[life] = known

    def _all(self):
        found = []
        for flow in sorted(self._flows):
            lives = self._flows[flow]
            for life in sorted(lives):
                found.append((flow, life, lives[life]))
        return found
