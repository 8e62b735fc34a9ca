"""The forms of names, addresses and packets (points 100 to 106)."""

from heldflows.limits import BUCKETS, MOST_AGENTS, MOST_CLIENTS, MOST_COUNT, MOST_DATA, MOST_MUXES, MOST_STREAM


def is_integer(value, least, greatest):
    """Tells whether the value is an integer from `least` to `greatest`."""
    # For Python, True and False are integers, too; for the document they are not.
    return isinstance(value, int) and not isinstance(value, bool) and least <= value <= greatest


def is_bytes(value):
    """Tells whether the value is a tuple of bytes."""
    return isinstance(value, tuple) and all(is_integer(item, 0, 255) for item in value)


def is_flow(value):
    """Tells whether the value is a pair of a client and a number."""
    return _is_tuple(value, 2) and _is_below(value[0], MOST_CLIENTS) and _is_ordinal(value[1])


def is_birth(value):
    """Tells whether the value is a pair of an agent and a number."""
    return _is_tuple(value, 2) and _is_below(value[0], MOST_AGENTS) and _is_ordinal(value[1])


def is_life(value):
    """Tells whether the value is a birth's agent and number, and a serial number."""
    return _is_tuple(value, 3) and is_birth(value[:2]) and _is_ordinal(value[2])


def is_address(value):
    """Tells whether the value is the address of a client, a mux, an agent or the controller."""
    word = first_word(value)
    if word == "controller":
        return len(value) == 1
    if word == "client":
        return len(value) == 2 and _is_below(value[1], MOST_CLIENTS)
    if word == "mux":
        return len(value) == 2 and _is_below(value[1], MOST_MUXES)
    if word == "agent":
        return len(value) == 2 and _is_below(value[1], MOST_AGENTS)
    return False


def is_packet(value):
    """Tells whether the value is a packet."""
    word = first_word(value)
    if word == "open":
        return len(value) == 2 and is_flow(value[1])
    if word in ("hello", "gone", "no"):
        return len(value) == 3 and is_flow(value[1]) and is_life(value[2])
    if word in ("up", "down"):
        return len(value) == 7 and is_flow(value[1]) and is_life(value[2]) and _is_segment(value[3:])
    return False


def goes_up(packet):
    """Tells whether a packet goes from a client to an agent."""
    return packet[0] in ("open", "up", "no")


def bucket_of(flow):
    """Returns the bucket of a flow."""
    client, number = flow
    return (5 * number + 7 * client) % BUCKETS


def first_word(value):
    """Returns the string that a tuple begins with, or None for all other values."""
    if isinstance(value, tuple) and len(value) > 0 and isinstance(value[0], str):
        return value[0]
    return None


def _is_tuple(value, many):
    return isinstance(value, tuple) and len(value) == many


def _is_below(value, many):
    return is_integer(value, 0, many - 1)


def _is_ordinal(value):
    return is_integer(value, 1, MOST_COUNT)


def _is_segment(parts):
    offset, data, last, taken = parts
    if not is_integer(offset, 0, MOST_STREAM) or not is_integer(last, 0, 1):
        return False
    # The end of a stream is taken like one more byte.
    return is_bytes(data) and len(data) <= MOST_DATA and is_integer(taken, 0, MOST_STREAM + 1)
