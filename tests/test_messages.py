"""Points 104 to 106: which values are messages to which address."""

import reprlib
import unittest

from heldflows import messages
from heldflows.messages import is_message
from strange import Plain, STRANGE, nested

CLIENTS = [("client", number) for number in range(6)]
MUXES = [("mux", number) for number in range(3)]
AGENTS = [("agent", number) for number in range(6)]
CONTROLLER = ("controller",)
ADDRESSES = CLIENTS + MUXES + AGENTS + [CONTROLLER]

FLOW = (2, 300)
BUCKET = 10
LIFE = (0, 1, 7)
UP = [("open", FLOW), ("up", FLOW, LIFE, 5, (200, 8, 9), 1, 4001), ("no", FLOW, LIFE)]
DOWN = [("hello", FLOW, LIFE), ("down", FLOW, LIFE, 5, (200, 8, 9), 1, 4001), ("gone", FLOW, LIFE)]

# As point 105 lists them; `s?` and `place` may be None.
TO_AGENT = {
    "grant": "s? b bucket count directory",
    "granted": "b b bucket count",
    "hand": "b b flow life count picture",
    "handed": "b b flow life count",
    "moved": "b flow life count b",
    "ended": "b flow life count",
    "noted": "b flow life count",
    "births": "births",
    "stop": "bucket count births",
    "give": "b bucket count b",
    "known": "b bucket count",
    "push": "b count count b",
    "table": "table",
}
TO_CONTROLLER = {
    "born": "b",
    "report": "b bucket count report",
    "owns": "b bucket count",
    "pushed": "b count",
    "held": "b count",
}
TO_MUX = {"table": "table"}
ROWS = {
    "births": None,
    "table": ("bucket", "count", "b"),
    "directory": ("flow", "life", "count", "b"),
    "report": ("flow", "life", "count", "place"),
}

# The first of each stands where another part is looked at.
GOOD = {
    "b": [(3, 4), (0, 1), (5, 1), (0, 1000000), (5, 1000000)],
    "s?": [(1, 2), None, (5, 1000000)],
    "place": [(1, 2), None, (5, 1000000)],
    "bucket": [11, 0, 1, 15],
    "count": [17, 0, 1, 1000000],
    "flow": [FLOW, (0, 1), (5, 1000000)],
    "life": [LIFE, (0, 1, 1), (5, 1000000, 1000000)],
    "picture": [(1, (2,)), None, 0, 4294967295, "a", "abcdefghijkl", (), (None, "up", 7), nested(16), (0,) * 70000],
    "births": [((0, 1), (3, 2)), (), ((0, 1),), ((3, 2), (0, 1), (3, 2), (3, 1))],
    "table": [
        ((3, 0, (0, 1)),), (), ((9, 1, (0, 1)), (3, 1000000, (5, 2)), (15, 0, (0, 1)), (0, 0, (0, 1))),
        ((9, 1, (0, 1)), (9, 1, (0, 1)), (9, 1, (1, 1)))],
    "directory": [
        ((FLOW, LIFE, 0, (0, 1)),), (), ((FLOW, LIFE, 5, (0, 1)), ((0, 1), (0, 1, 1), 1000000, (5, 2))),
        ((FLOW, LIFE, 0, (0, 1)), (FLOW, LIFE, 0, (0, 1)))],
    "report": [
        ((FLOW, LIFE, 0, (0, 1)),), (), ((FLOW, LIFE, 0, None),),
        ((FLOW, LIFE, 5, None), ((0, 1), (0, 1, 1), 1000000, (5, 2)), (FLOW, LIFE, 5, None))],
}
# No part may be one of these, whatever it stands for.
ODD = [True, False, -1, 1.0, "", "Up", "abcdefghijklm", [], [0, 1], ["up"], {}, b"", b"a", Plain(), (True,), ([],)]
BAD = {
    "b": [None, 0, 1, (), (0,), (0, 0), (6, 1), (-1, 1), (0, 1000001), (0, True), (False, 1), (0, 1, 1), "up"],
    "bucket": [None, 16, 17, 1000, (), (0,), "up"],
    "count": [None, 1000001, 4294967295, (), (0,), "up"],
    "flow": [None, 0, (), (0,), (6, 1), (0, 0), (0, 1000001), (0, 1, 1), (True, 1), "up"],
    "life": [None, 0, (), (0, 1), (6, 1, 1), (0, 0, 1), (0, 1, 0), (0, 1000001, 1), (0, 1, 1000001), (0, 1, 1, 1)],
    "picture": [4294967296, nested(17), (1, nested(16)), (1, (True,)), ("UP",), (0,) * 70000 + (-1,)],
    "births": [None, 0, (0, 1), ((0, 1), (6, 1)), ((0, 0),), ((0, 1), None), (0, (0, 1)), ((0, 1, 1),), ((),), "up"],
    "table": [None, 0, (3, 0, (0, 1)), "up", ((),), (None,)],
    "directory": [None, 0, (FLOW, LIFE, 0, (0, 1)), "up", ((),), (None,)],
    "report": [None, 0, (FLOW, LIFE, 0, None), "up", ((),), (None,)],
}
BAD["s?"] = [value for value in BAD["b"] if value is not None]
BAD["place"] = BAD["s?"]


def parts_of(words):
    """Returns a good part for each of the words."""
    return tuple(GOOD[word][0] for word in words)


def messages_of(forms):
    """Returns a message of each form."""
    return [(kind,) + parts_of(words.split()) for kind, words in forms.items()]


def to_address(address):
    """Returns messages to an address, all kinds among them."""
    if address[0] == "client":
        return [packet for packet in DOWN if address == ("client", 2)]
    if address[0] == "mux":
        return UP + messages_of(TO_MUX)
    if address[0] == "agent":
        return [("wrap", BUCKET, 8, packet) for packet in UP] + messages_of(TO_AGENT)
    return messages_of(TO_CONTROLLER)


EVERY = UP + DOWN + [("wrap", BUCKET, 8, packet) for packet in UP]
EVERY += messages_of(TO_MUX) + messages_of(TO_AGENT) + messages_of(TO_CONTROLLER)


class MessagesCase(unittest.TestCase):
    def accepts(self, address, *values):
        for value in values:
            self.assertIs(is_message(address, value), True, (address, reprlib.repr(value)))

    def refuses(self, address, *values):
        for value in values:
            self.assertIs(is_message(address, value), False, (address, reprlib.repr(value)))


class AddressesTest(MessagesCase):
    def test_each_message_to_each_address(self):
        for address in ADDRESSES:
            own = to_address(address)
            for value in EVERY:
                if value in own:
                    self.accepts(address, value)
                else:
                    self.refuses(address, value)

    def test_which_kinds_go_to_which_address(self):
        kinds = {
            "client": ["down", "gone", "hello"],
            "mux": ["no", "open", "table", "up"],
            "agent": [
                "births", "ended", "give", "grant", "granted", "hand", "handed", "known", "moved", "noted", "push",
                "stop", "table", "wrap"],
            "controller": ["born", "held", "owns", "pushed", "report"],
        }
        for address in [("client", 2), ("mux", 1), ("agent", 4), CONTROLLER]:
            found = {value[0] for value in EVERY if is_message(address, value)}
            self.assertEqual(sorted(found), kinds[address[0]])

    def test_packets_down_are_for_the_client_of_their_flow(self):
        for client in range(6):
            for packet in (
                    ("hello", (client, 1), LIFE), ("gone", (client, 1000000), LIFE),
                    ("down", (client, 7), LIFE, 0, (), 0, 0)):
                self.accepts(("client", client), packet)
                for other in range(6):
                    if other != client:
                        self.refuses(("client", other), packet)

    def test_packets_with_one_part_spoilt(self):
        for packet in DOWN + UP:
            for at in range(len(packet)):
                for part in ODD + [None, 10 ** 9]:
                    spoilt = packet[:at] + (part,) + packet[at + 1:]
                    for address in ADDRESSES:
                        self.refuses(address, spoilt)
                    self.refuses(("agent", 1), ("wrap", BUCKET, 8, spoilt))


class WrapsTest(MessagesCase):
    def test_buckets(self):
        for packet in UP:
            for bucket in range(-1, 18):
                if bucket == BUCKET:
                    self.accepts(("agent", 0), ("wrap", bucket, 8, packet))
                else:
                    self.refuses(("agent", 0), ("wrap", bucket, 8, packet))
        # The flows (5, 3), (0, 16) and (0, 3) have the buckets 2, 0 and 15.
        self.accepts(
            ("agent", 0), ("wrap", 2, 8, ("open", (5, 3))), ("wrap", 0, 8, ("open", (0, 16))),
            ("wrap", 15, 8, ("open", (0, 3))))
        self.refuses(("agent", 0), ("wrap", 16, 8, ("open", (0, 16))), ("wrap", 50, 8, ("open", (5, 3))))

    def test_buckets_that_are_no_integers(self):
        # The flows (0, 16) and (1, 2) have the buckets 0 and 1.
        self.accepts(("agent", 0), ("wrap", 0, 8, ("open", (0, 16))), ("wrap", 1, 8, ("open", (1, 2))))
        self.refuses(
            ("agent", 0), ("wrap", False, 8, ("open", (0, 16))), ("wrap", True, 8, ("open", (1, 2))),
            ("wrap", None, 8, ("open", (0, 16))), ("wrap", 1.0, 8, ("open", (1, 2))))

    def test_hops(self):
        for packet in UP:
            for hops in range(9):
                self.accepts(("agent", 3), ("wrap", BUCKET, hops, packet))
            for hops in [9, 10, 1000, None, "up", (), (1,)] + ODD:
                self.refuses(("agent", 3), ("wrap", BUCKET, hops, packet))

    def test_packets_that_go_down(self):
        for packet in DOWN:
            self.refuses(("agent", 2), ("wrap", BUCKET, 8, packet))

    def test_what_is_no_packet(self):
        for value in ODD + STRANGE + [None, 0, (), ("wrap", BUCKET, 8, UP[0]), ("table", ()), UP[:1], list(UP[0])]:
            self.refuses(("agent", 2), ("wrap", BUCKET, 8, value))


class PartsTest(MessagesCase):
    def each_part(self):
        """Yields an address, a message to it, the place of one part, and what this part stands for."""
        for address, forms in ((("agent", 5), TO_AGENT), (CONTROLLER, TO_CONTROLLER), (("mux", 2), TO_MUX)):
            for kind, words in forms.items():
                message = (kind,) + parts_of(words.split())
                for at, word in enumerate(words.split(), start=1):
                    yield address, message, at, word

    def test_good_parts(self):
        for address, message, at, word in self.each_part():
            for part in GOOD[word]:
                self.accepts(address, message[:at] + (part,) + message[at + 1:])

    def test_bad_parts(self):
        for address, message, at, word in self.each_part():
            for part in BAD[word] + ODD:
                self.refuses(address, message[:at] + (part,) + message[at + 1:])

    def test_none_stands_for_a_sender_and_a_place_alone(self):
        for address, message, at, word in self.each_part():
            value = message[:at] + (None,) + message[at + 1:]
            if word in ("s?", "picture"):
                self.accepts(address, value)
            else:
                self.refuses(address, value)

    def test_good_rows(self):
        for address, message, at, word in self.each_part():
            kinds = ROWS.get(word)
            if kinds is not None:
                row = parts_of(kinds)
                for part_at, kind in enumerate(kinds):
                    for part in GOOD[kind]:
                        other = row[:part_at] + (part,) + row[part_at + 1:]
                        for rows in ((other,), (row, other), (other, row), (other, other)):
                            self.accepts(address, message[:at] + (rows,) + message[at + 1:])

    def refuses_rows(self, row_of):
        """Refuses the rows that are made of a good one, alone, behind and before a good one."""
        for address, message, at, word in self.each_part():
            kinds = ROWS.get(word)
            if kinds is not None:
                row = parts_of(kinds)
                for other in row_of(row, kinds):
                    for rows in ((other,), (row, other), (other, row)):
                        self.refuses(address, message[:at] + (rows,) + message[at + 1:])

    def test_bad_rows(self):
        def spoilt(row, kinds):
            for at, kind in enumerate(kinds):
                for part in BAD[kind] + ODD:
                    yield row[:at] + (part,) + row[at + 1:]

        self.refuses_rows(spoilt)

    def test_rows_of_one_part_too_few_or_too_many(self):
        def longer_or_shorter(row, kinds):
            for at, kind in enumerate(kinds):
                yield row[:at] + row[at + 1:]
                yield row[:at] + (GOOD[kind][0],) + row[at:]
            yield row + (None,)
            yield row + row[-1:]
            yield row[:1]
            yield ()

        self.refuses_rows(longer_or_shorter)

    def test_rows_that_are_no_tuples(self):
        self.refuses_rows(lambda row, kinds: [list(row), None, 0, True, "row", {}, (row,), [row]])

    def test_rows_in_a_list(self):
        for address, message, at, word in self.each_part():
            if word in ROWS:
                for rows in GOOD[word]:
                    self.refuses(address, message[:at] + (list(rows),) + message[at + 1:])

    def test_places_in_tables_and_directories_are_not_none(self):
        self.refuses(("mux", 0), ("table", ((3, 0, None),)))
        self.refuses(("agent", 0), ("table", ((3, 0, None),)))
        self.refuses(("agent", 0), ("grant", None, (1, 1), 3, 1, ((FLOW, LIFE, 0, None),)))
        self.accepts(CONTROLLER, ("report", (1, 1), 3, 1, ((FLOW, LIFE, 0, None),)))


class FormsTest(MessagesCase):
    def test_parts_left_out(self):
        for address in ADDRESSES:
            for value in EVERY:
                for at in range(len(value)):
                    self.refuses(address, value[:at] + value[at + 1:], value[:at])

    def test_parts_put_in(self):
        for address in ADDRESSES:
            for value in EVERY:
                for at in range(len(value) + 1):
                    for part in (None, 0, True, (), FLOW, LIFE, (0, 1), "up"):
                        self.refuses(address, value[:at] + (part,) + value[at:])

    def test_parts_doubled(self):
        for address in ADDRESSES:
            for value in EVERY:
                for at in range(len(value)):
                    self.refuses(address, value[:at + 1] + value[at:])

    def test_parts_exchanged(self):
        # A flow and a birth are pairs of the same form; all other parts differ from each other.
        alike = {"s?": "b", "flow": "b"}
        for address, forms in ((("agent", 5), TO_AGENT), (CONTROLLER, TO_CONTROLLER), (("mux", 2), TO_MUX)):
            for kind, words in forms.items():
                places = [None] + [alike.get(word, word) for word in words.split()]
                value = (kind,) + parts_of(words.split())
                for other in range(len(value)):
                    for at in range(other):
                        parts = list(value)
                        parts[at], parts[other] = parts[other], parts[at]
                        if places[at] == places[other]:
                            self.accepts(address, tuple(parts))
                        else:
                            self.refuses(address, tuple(parts))

    def test_parts_of_packets_and_wraps_exchanged(self):
        for value in UP + DOWN + [("wrap", BUCKET, 8, packet) for packet in UP]:
            for other in range(len(value)):
                for at in range(other):
                    parts = list(value)
                    parts[at], parts[other] = parts[other], parts[at]
                    for address in ADDRESSES:
                        self.refuses(address, tuple(parts))

    def test_unknown_kinds(self):
        words = ["", "Open", "WRAP", "round", "close", "told", "client", "births or none", "directory", "birth", "wrapp"]
        for address in ADDRESSES:
            for value in EVERY:
                for word in words + [None, 0, True, b"open", ("open",), ["open"], Plain()]:
                    self.refuses(address, (word,) + value[1:])
                self.refuses(address, value[1:], (value,), (value[0],), value + value)

    def test_lists_in_place_of_tuples(self):
        for address in ADDRESSES:
            for value in EVERY:
                self.refuses(address, list(value), dict(enumerate(value)))
                for at, part in enumerate(value):
                    if type(part) is tuple:
                        self.refuses(address, value[:at] + (list(part),) + value[at + 1:])

    def test_values_of_any_kind(self):
        for address in ADDRESSES:
            self.refuses(address, *STRANGE)
            for many in range(1, 8):
                for part in (None, True, -1, "x", 1.0, [], {}, Plain()):
                    self.refuses(address, (part,) * many)

    def test_values_of_any_kind_behind_a_word(self):
        kinds = list(TO_AGENT) + list(TO_CONTROLLER) + ["wrap", "open", "hello", "up", "down", "gone", "no"]
        for address in [("client", 2), ("mux", 0), ("agent", 0), CONTROLLER]:
            for kind in kinds:
                for many in range(1, 8):
                    for part in (None, True, -1, "x", 1.0, [], {}, Plain()):
                        self.refuses(address, (kind,) + (part,) * many)


class PlaceTest(unittest.TestCase):
    def test_functions_are_defined_in_their_file(self):
        self.assertEqual(messages.is_message.__module__, "heldflows.messages")


if __name__ == "__main__":
    unittest.main()
