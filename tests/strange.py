"""Values of any kind, for the functions that accept any value."""


class Plain:
    """An object that is none of the program's values."""


class Equal:
    """An object that is equal to everything."""

    def __eq__(self, other):
        return True

    def __hash__(self):
        return 0


def nested(levels):
    """Returns () nested so deep."""
    value = ()
    for _ in range(levels - 1):
        value = (value,)
    return value


# Those that can be written, though they are neither names nor packets, nor bytes of a value.
WRITABLE = [
    None, 0, 1, 7, "a", "open", "up", "client", "controller", (), (None,), ((),), ((), ()), (((0, 1),),),
    (None, None), (None, None, None), (("open",), (0, 1)), nested(16),
]

OTHERS = [
    True, False, -1, 10 ** 30, -10 ** 30, 0.0, 1.0, 1.5, float("nan"), float("inf"), 1j,
    "", "\u00e9", "open" * 1000, b"", b"open", bytearray(b"\x01"), [], [1], [0, 1], ["open", (0, 1)],
    {}, {0: 1}, {"open": (0, 1)}, set(), {1}, frozenset({1}), range(2),
    Plain, Plain(), Equal(), len, ..., NotImplemented,
    (True,), (False, True), (1.0, 1), ([],), ([], []), ({}, {}, {}), ("0", "1"), (b"open", (0, 1)),
    (["open"], (0, 1)), ({}, (0, 1)), (Plain(), (0, 1)), (Equal(),), (Equal(), 0), (Equal(), (0, 1)),
    (Equal(), (0, 1), (0, 1, 1)), ("open", Equal()), ("client", Equal()), (0, Equal()), (0, 1, Equal()),
    nested(17), nested(100000),
]

STRANGE = WRITABLE + OTHERS
