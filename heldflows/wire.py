"""Values and their bytes (points 107 to 110)."""

from heldflows.errors import BadBytes
from heldflows.forms import is_bytes, is_integer
from heldflows.limits import MOST_BYTES, MOST_INTEGER, MOST_NESTED, MOST_WORD

NONE = 0
INTEGER = 1
WORD = 2
TUPLE = 3

LETTERS = "abcdefghijklmnopqrstuvwxyz"

SUM_BYTES = 2
SUM_DIVISOR = 65521


def can_be_written(value):
    """Tells whether a value can be written, whatever the number of its bytes."""
    return _can_stand(value, MOST_NESTED)


def write(value):
    """Returns the bytes of a value; raises BadBytes if it has none, or too many."""
    row = []
    _put(row, value, MOST_NESTED)
    return tuple(row) + _sum_of(row)


def read(row):
    """Returns the value that has these bytes; raises BadBytes if there is none."""
    if not isinstance(row, tuple) or len(row) > MOST_BYTES or not is_bytes(row):
        raise BadBytes()
    front = row[:-SUM_BYTES]
    if row[-SUM_BYTES:] != _sum_of(front):
        raise BadBytes()
    reader = Reader(front)
    value = reader.value(MOST_NESTED)
    if not reader.is_done():
        raise BadBytes()
    return value


class Reader:
    """Takes values from a row of bytes, from its beginning on."""

    def __init__(self, row):
        self.row = row
        self.place = 0

    def is_done(self):
        """Tells whether all bytes are taken."""
        return self.place == len(self.row)

    def value(self, levels):
        """Takes a value that is nested at most `levels` deep."""
        kind = self.byte()
        if kind == NONE:
            return None
        if kind == INTEGER:
            return self.number()
        if kind == WORD:
            return self.word()
        if kind == TUPLE and levels > 0:
            return self.inner(levels - 1)
        raise BadBytes()

    def inner(self, levels):
        """Takes the number of the items of a tuple, and the items."""
        many = self.number()
        found = []
        while len(found) < many:
            found.append(self.value(levels))
        return tuple(found)

    def word(self):
        """Takes the number of the letters of a word, and the letters."""
        many = self.number()
        # An empty slice of the row would be an empty word, which is none.
        if not 1 <= many <= MOST_WORD:
            raise BadBytes()
        return "".join([_letter_of(code) for code in self.part(many)])

    def number(self):
        """Takes a number; one with a zero in front has other bytes, so it is refused."""
        digits = self.part(self.byte())
        if digits[:1] == (0,):
            raise BadBytes()
        number = 0
        for digit in digits:
            number = 256 * number + digit
        if number > MOST_INTEGER:
            raise BadBytes()
        return number

    def byte(self):
        """Takes one byte."""
        return self.part(1)[0]

    def part(self, many):
        """Takes so many bytes, if so many are left."""
        part = self.row[self.place:self.place + many]
        if len(part) < many:
            raise BadBytes()
        self.place += many
        return part


def _can_stand(value, levels):
    if isinstance(value, tuple):
        return levels > 0 and all(_can_stand(item, levels - 1) for item in value)
    return value is None or is_integer(value, 0, MOST_INTEGER) or _is_word(value)


def _is_word(value):
    # The length comes first, so that a long string is not searched.
    if not isinstance(value, str) or not 1 <= len(value) <= MOST_WORD:
        return False
    return all("a" <= letter <= "z" for letter in value)


def _letter_of(code):
    at = code - ord("a")
    if not 0 <= at < len(LETTERS):
        raise BadBytes()
    return LETTERS[at]


def _put(row, value, levels):
    if value is None:
        row.append(NONE)
    elif is_integer(value, 0, MOST_INTEGER):
        row.append(INTEGER)
        _put_number(row, value)
    elif _is_word(value):
        row.append(WORD)
        _put_number(row, len(value))
        row.extend([ord(letter) for letter in value])
    elif isinstance(value, tuple) and levels > 0:
        row.append(TUPLE)
        _put_number(row, len(value))
        for item in value:
            _put(row, item, levels - 1)
    else:
        raise BadBytes()
    # This is asked behind each item, since tuples that share their items may have more bytes than can be put down.
    if len(row) > MOST_BYTES - SUM_BYTES:
        raise BadBytes()


def _put_number(row, number):
    digits = _digits_of(number)
    row.append(len(digits))
    row.extend(digits)


def _digits_of(number):
    digits = []
    rest = number
    while rest > 0:
        digits.append(rest % 256)
        rest = rest // 256
    digits.reverse()
    return digits


def _sum_of(row):
    total = sum([place * byte for place, byte in enumerate(row, start=1)])
    return divmod(total % SUM_DIVISOR, 256)
