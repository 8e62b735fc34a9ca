"""One end of the two streams of a flow (points 200 to 207)."""

from heldflows.limits import MOST_DATA, WINDOW


class End:
    """What one side keeps of both streams.

    Of its own stream: the number of bytes that are known to be taken, the bytes behind them, whether it is closed,
    and whether its end is known to be taken. Of the other one: the number of bytes that are taken, whether its end
    is taken, the bytes that lie ahead, by their offsets, and the offset behind the last byte, or None.
    """

    def __init__(self):
        self._base = 0
        self._pending = []
        self._closed = 0
        self._given = 0
        self._got = 0
        self._ended = 0
        self._ahead = {}
        self._end = None

    def write(self, data):
        """Puts bytes behind those that were written before; behind `close` nothing is written."""
        if not self._closed:
            self._pending.extend(data)

    def close(self):
        """Ends the stream behind the bytes that were written."""
        self._closed = 1

    def due(self):
        """Returns the list of the segments to send now."""
        taken = self.taken()
        if len(self._pending) == 0:
            return [(self._base, (), self._closed, taken)]
        window = tuple(self._pending[:WINDOW])
        segments = []
        for at in range(0, len(window), MOST_DATA):
            piece = window[at:at + MOST_DATA]
            last = self._closed if at + len(piece) == len(self._pending) else 0
            segments.append((self._base + at, piece, last, taken))
        return segments

    def take(self, offset, data, last, taken):
        """Takes a segment of the other side; returns the tuple of the bytes that were taken now."""
        self._learn(taken)
        self._keep(offset, data)
        if last == 1:
            self._end = offset + len(data)
        fresh = self._take_in_order()
        if self._got == self._end:
            self._ended = 1
        return fresh

    def taken(self):
        """Returns how much is taken of the other stream; its end counts like one more byte."""
        return self._got + self._ended

    def has_end(self):
        """Tells whether the end of the other stream is taken."""
        return self._ended == 1

    def is_given(self):
        """Tells whether the other side is known to have taken all bytes and the end."""
        return self._given == 1

    def picture(self):
        """Returns all that the end keeps, as a tuple that `end_of` takes."""
        pieces = tuple(sorted(self._ahead.items()))
        own = (self._base, tuple(self._pending), self._closed, self._given)
        return own + (self._got, self._ended, pieces, self._end)

    def _learn(self, taken):
        written = self._base + len(self._pending)
        # Segments come in any order, so this one may tell less than what is known.
        known = max(self._base, min(taken, written))
        self._pending = self._pending[known - self._base:]
        self._base = known
        if self._closed and taken > written:
            self._given = 1

    def _keep(self, offset, data):
        for at, byte in enumerate(data, start=offset):
            if at >= self._got and at not in self._ahead:
                self._ahead[at] = byte

    def _take_in_order(self):
        fresh = []
        while self._got in self._ahead:
            fresh.append(self._ahead.pop(self._got))
            self._got += 1
        return tuple(fresh)


def end_of(picture):
    """Returns a new end that goes on as the one that gave the picture."""
    base, pending, closed, given, got, ended, pieces, last_offset = picture
    end = End()
    end._base = base
    end._pending = list(pending)
    end._closed = closed
    end._given = given
    end._got = got
    end._ended = ended
    end._ahead = dict(pieces)
    end._end = last_offset
    return end
