"""Schedules: texts that tell the events of a world (points 806 to 808)."""

from heldflows.errors import BadSchedule
from heldflows.limits import MOST_AGENTS, MOST_CLIENTS, MOST_MUXES
from heldflows.worlds import World

MOST_WRITE = 16

DIGITS = "0123456789"
MOST_DIGITS = 4
MOST_NUMBER = 9999

# What stands behind the word of an event. `round` is not among them, since one line may stand for several events.
PARTS = {
    "open": ("client",),
    "write": ("client", "ordinal", "bytes"),
    "close": ("client", "ordinal"),
    "client": ("client",),
    "agent": ("agent",),
    "controller": (),
    "deliver": ("number",),
    "lose": ("number",),
    "double": ("number",),
    "spoil": ("number", "number", "change"),
    "stop": ("agent",),
    "start": ("agent",),
    "forget": ("mux",),
    "route": ("client", "mux"),
    "wish": ("agent", "wish"),
}


def parse(text):
    """Returns the pair of the size of the world and its events; raises BadSchedule with the first bad line."""
    if not isinstance(text, str):
        raise BadSchedule(0)
    lines = text.split("\n")
    size = None
    events = []
    for number, line in enumerate(lines, start=1):
        if line == "" or line.startswith("#"):
            continue
        words = line.split(" ")
        if size is None:
            size = _size_of(words, number)
        else:
            events.extend(_events_of(words, size, number))
    if size is None:
        raise BadSchedule(len(lines))
    return size, tuple(events)


def run(text):
    """Returns the list of the pictures of a world, of the new one and behind each event of the schedule."""
    size, events = parse(text)
    clients, agents, muxes = size
    world = World(clients, agents, muxes)
    pictures = [world.picture()]
    for event in events:
        world.do(event)
        pictures.append(world.picture())
    return pictures


def _size_of(words, line):
    if words[0] != "world" or len(words) != 4:
        raise BadSchedule(line)
    size = []
    for word, most in zip(words[1:], (MOST_CLIENTS, MOST_AGENTS, MOST_MUXES)):
        size.append(_number_of(word, 1, most, line))
    return tuple(size)


def _events_of(words, size, line):
    if words == ["round"]:
        return [("round",)]
    if words[0] == "round" and len(words) == 2:
        return [("round",)] * _number_of(words[1], 1, MOST_NUMBER, line)
    kinds = PARTS.get(words[0])
    if kinds is None or len(words) != len(kinds) + 1:
        raise BadSchedule(line)
    parts = [words[0]]
    for kind, word in zip(kinds, words[1:]):
        parts.append(_part_of(kind, word, size, line))
    return [tuple(parts)]


def _part_of(kind, word, size, line):
    if kind == "bytes":
        return _bytes_of(word, line)
    if kind == "wish":
        if word not in ("serve", "drain"):
            raise BadSchedule(line)
        return word
    least, greatest = _bounds_of(kind, size)
    return _number_of(word, least, greatest, line)


def _bounds_of(kind, size):
    clients, agents, muxes = size
    if kind == "client":
        return 0, clients - 1
    if kind == "agent":
        return 0, agents - 1
    if kind == "mux":
        return 0, muxes - 1
    if kind == "change":
        return 1, 255
    if kind == "ordinal":
        return 1, MOST_NUMBER
    return 0, MOST_NUMBER


def _bytes_of(word, line):
    pieces = word.split(",")
    if len(pieces) > MOST_WRITE:
        raise BadSchedule(line)
    return tuple([_number_of(piece, 0, 255, line) for piece in pieces])


def _number_of(word, least, greatest, line):
    if not _is_number(word):
        raise BadSchedule(line)
    number = int(word)
    if not least <= number <= greatest:
        raise BadSchedule(line)
    return number


def _is_number(word):
    # The length comes first, so that a long word is not searched.
    if not 1 <= len(word) <= MOST_DIGITS or (word[0] == "0" and word != "0"):
        return False
    return all(letter in DIGITS for letter in word)
