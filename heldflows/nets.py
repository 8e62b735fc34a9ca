"""The net, which carries messages (point 801)."""

from heldflows.errors import BadBytes
from heldflows.wire import read, write


class Letter:
    """A message on its way: an address, the bytes of the message, and whether they are spoilt."""

    def __init__(self, address, data, is_spoilt):
        self.address = address
        self.data = data
        self.is_spoilt = is_spoilt


class Net:
    """The letters, in the order in which they were sent."""

    def __init__(self):
        self._letters = []

    def send(self, address, message):
        """Puts a letter behind all others."""
        self._letters.append(Letter(address, write(message), False))

    def count(self):
        """Returns the number of letters."""
        return len(self._letters)

    def letter(self, place):
        """Returns the pair of the address and the bytes of a letter."""
        letter = self._letters[place]
        return letter.address, letter.data

    def take(self, place):
        """Removes a letter; returns the pair of its address and its message, or None if it cannot be read."""
        letter = self._letters.pop(place)
        try:
            return letter.address, read(letter.data)
        except BadBytes:
            return None

    def double(self, place):
        """Puts a letter like this one behind all others."""
        letter = self._letters[place]
        self._letters.append(Letter(letter.address, letter.data, letter.is_spoilt))

    def spoil(self, place, at, by):
        """Changes one byte of a letter, if it is not spoilt."""
        letter = self._letters[place]
        if letter.is_spoilt:
            return
        row = list(letter.data)
        spot = at % len(row)
        row[spot] = (row[spot] + by) % 256
        letter.data = tuple(row)
        letter.is_spoilt = True
