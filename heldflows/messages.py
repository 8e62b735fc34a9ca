"""The messages to each address (points 104 to 106)."""

from heldflows.forms import bucket_of, first_word, goes_up, is_birth, is_flow, is_integer, is_life, is_packet
from heldflows.limits import BUCKETS, MOST_COUNT, MOST_HOPS
from heldflows.wire import can_be_written

# The parts behind the first word. `wrap` is not among them, since its bucket depends on its packet.
TO_AGENT = {
    "grant": ("birth or none", "birth", "bucket", "count", "directory"),
    "granted": ("birth", "birth", "bucket", "count"),
    "hand": ("birth", "birth", "flow", "life", "count", "picture"),
    "handed": ("birth", "birth", "flow", "life", "count"),
    "moved": ("birth", "flow", "life", "count", "birth"),
    "ended": ("birth", "flow", "life", "count"),
    "noted": ("birth", "flow", "life", "count"),
    "births": ("births",),
    "stop": ("bucket", "count", "births"),
    "give": ("birth", "bucket", "count", "birth"),
    "known": ("birth", "bucket", "count"),
    "push": ("birth", "count", "count", "birth"),
    "table": ("table",),
}
TO_CONTROLLER = {
    "born": ("birth",),
    "report": ("birth", "bucket", "count", "report"),
    "owns": ("birth", "bucket", "count"),
    "pushed": ("birth", "count"),
    "held": ("birth", "count"),
}
TO_MUX = {
    "table": ("table",),
}

ROWS = {
    "table": ("bucket", "count", "birth"),
    "directory": ("flow", "life", "count", "birth"),
    "report": ("flow", "life", "count", "birth or none"),
}


def is_message(address, value):
    """Tells whether the value is a message to the address."""
    receiver = address[0]
    word = first_word(value)
    if receiver == "client":
        return is_packet(value) and not goes_up(value) and value[1][0] == address[1]
    if receiver == "mux":
        return _is_packet_up(value) or _has_parts(TO_MUX.get(word), value)
    if receiver == "agent":
        return _is_wrap(value) or _has_parts(TO_AGENT.get(word), value)
    return _has_parts(TO_CONTROLLER.get(word), value)


def _is_packet_up(value):
    return is_packet(value) and goes_up(value)


def _is_wrap(value):
    if first_word(value) != "wrap" or len(value) != 4:
        return False
    _, bucket, hops, packet = value
    if not _is_part("bucket", bucket) or not is_integer(hops, 0, MOST_HOPS):
        return False
    return _is_packet_up(packet) and bucket == bucket_of(packet[1])


def _has_parts(kinds, value):
    return kinds is not None and _are_parts(kinds, value[1:])


def _are_parts(kinds, parts):
    if len(parts) != len(kinds):
        return False
    for kind, part in zip(kinds, parts):
        if not _is_part(kind, part):
            return False
    return True


def _is_part(kind, value):
    if kind == "birth":
        return is_birth(value)
    if kind == "birth or none":
        return value is None or is_birth(value)
    if kind == "flow":
        return is_flow(value)
    if kind == "life":
        return is_life(value)
    if kind == "bucket":
        return is_integer(value, 0, BUCKETS - 1)
    if kind == "count":
        return is_integer(value, 0, MOST_COUNT)
    if kind == "picture":
        return can_be_written(value)
    return isinstance(value, tuple) and all(_is_row(kind, row) for row in value)


def _is_row(kind, row):
    if kind == "births":
        return is_birth(row)
    return isinstance(row, tuple) and _are_parts(ROWS[kind], row)
