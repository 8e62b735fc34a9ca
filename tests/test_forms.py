"""Points 100, 102, 103, 104 and 106."""

import reprlib
import unittest

from heldflows import forms
from heldflows.forms import (
    bucket_of, goes_up, is_address, is_birth, is_bytes, is_flow, is_integer, is_life, is_packet)
from strange import Plain, STRANGE

FLOW = (2, 300)
LIFE = (0, 1, 7)
# No part of a segment here may stand for another one.
SEGMENT = (5, (200, 8, 9), 1, 4001)
PACKETS = [
    ("open", FLOW),
    ("hello", FLOW, LIFE),
    ("up", FLOW, LIFE) + SEGMENT,
    ("down", FLOW, LIFE) + SEGMENT,
    ("gone", FLOW, LIFE),
    ("no", FLOW, LIFE),
]


class FormsCase(unittest.TestCase):
    def accepts(self, test, *values):
        for value in values:
            self.assertIs(test(value), True, (test.__name__, reprlib.repr(value)))

    def refuses(self, test, *values):
        for value in values:
            self.assertIs(test(value), False, (test.__name__, reprlib.repr(value)))


class IntegersTest(FormsCase):
    def test_bounds_belong_to_it(self):
        for value, expected in ((2, False), (3, True), (4, True), (5, True), (6, False), (-4, False)):
            self.assertIs(is_integer(value, 3, 5), expected, value)
        self.assertIs(is_integer(-1, -1, -1), True)
        self.assertIs(is_integer(0, 0, 0), True)
        self.assertIs(is_integer(0, 1, 0), False)
        self.assertIs(is_integer(10 ** 40, 0, 10 ** 40), True)
        self.assertIs(is_integer(10 ** 40 + 1, 0, 10 ** 40), False)

    def test_true_and_false_are_not_integers(self):
        self.assertIs(is_integer(True, 0, 1), False)
        self.assertIs(is_integer(False, 0, 1), False)

    def test_other_values_are_no_integers(self):
        for value in STRANGE:
            if type(value) is not int:
                self.assertIs(is_integer(value, -10 ** 40, 10 ** 40), False)


class BytesTest(FormsCase):
    def test_tuples_of_bytes(self):
        self.accepts(is_bytes, (), (0,), (255,), (0, 255, 7), (1,) * 5000)

    def test_other_items(self):
        self.refuses(is_bytes, (-1,), (256,), (0, 256), (True,), (0, False), (None,), ("a",), (1.0,), ((1,),), (0, ()))

    def test_other_kinds(self):
        self.refuses(is_bytes, [], [1, 2], b"", b"ab", "", "a", 7, None, True, {}, {1: 1}, {1}, range(2))


class NamesTest(FormsCase):
    def test_flows_and_births(self):
        for test in (is_flow, is_birth):
            self.accepts(test, (0, 1), (5, 1), (0, 1000000), (5, 1000000), (3, 500))
            self.refuses(
                test, (6, 1), (-1, 1), (0, 0), (0, -1), (0, 1000001), (1000, 1), (True, 1), (False, 1), (0, True),
                (0, False), (None, 1), (0, None), ("0", 1), (0, "1"), (0.0, 1), (0, 1.0), ((0,), 1), (0, (1,)))
            self.refuses(test, (), (0,), (1, 1, 1), (0, 1, 2, 3), [0, 1], {0: 1, 1: 1}, "ab", b"ab", ((0, 1),))

    def test_lives(self):
        self.accepts(is_life, (0, 1, 1), (5, 1, 1), (0, 1000000, 1), (0, 1, 1000000), (5, 1000000, 1000000))
        self.refuses(
            is_life, (6, 1, 1), (-1, 1, 1), (0, 0, 1), (0, 1, 0), (0, 1000001, 1), (0, 1, 1000001), (0, -1, 1),
            (0, 1, -1), (True, 1, 1), (0, True, 1), (0, 1, True), (False, 1, 1), (0, 1, False), (None, 1, 1),
            (0, None, 1), (0, 1, None), ("0", 1, 1), (0, 1, "1"), (0, 1, (1,)), (0, 1.0, 1))
        self.refuses(is_life, (), (0,), (0, 1), (0, 1, 1, 1), [0, 1, 1], ((0, 1), 1), (0, (1, 1)), "abc", b"abc")

    def test_addresses(self):
        self.accepts(
            is_address, ("client", 0), ("client", 5), ("mux", 0), ("mux", 2), ("agent", 0), ("agent", 5),
            ("controller",))
        self.refuses(
            is_address, ("client", 6), ("client", -1), ("mux", 3), ("mux", -1), ("agent", 6), ("agent", -1))
        for word in ("client", "mux", "agent"):
            self.refuses(
                is_address, (word,), (word, True), (word, False), (word, None), (word, "0"), (word, 0.0), (word, (0,)),
                (word, 0, 0), [word, 0], (0, word), (word, word), (word.upper(), 0), (word + "s", 0), ((word, 0),))
        self.refuses(
            is_address, ("controller", 0), ("controller", None), ("controller", "controller"), "controller",
            ["controller"], ("Controller",), (("controller",),), ("controlle",), ("",), ("", 0), ("round", 0))

    def test_values_of_any_kind(self):
        for test in (is_flow, is_birth, is_life, is_address, is_packet):
            self.refuses(test, *STRANGE)
            for many in range(1, 8):
                for value in (None, True, -1, "x", 1.0, [], {}, Plain()):
                    self.refuses(test, (value,) * many)


class BucketsTest(FormsCase):
    def test_buckets_of_flows(self):
        buckets = {
            (0, 1): 5, (0, 2): 10, (0, 3): 15, (0, 4): 4, (0, 16): 0, (1, 1): 12, (1, 2): 1, (2, 300): 10, (5, 3): 2,
            (5, 1000000): 3, (0, 1000000): 0, (3, 999999): 0, (4, 7): 15,
        }
        for flow, bucket in buckets.items():
            self.assertEqual(bucket_of(flow), bucket, flow)

    def test_sixteen_numbers_in_a_row_meet_all_buckets(self):
        for client in range(6):
            for first in (1, 2, 16, 300, 999985):
                buckets = [bucket_of((client, number)) for number in range(first, first + 16)]
                self.assertEqual(sorted(buckets), list(range(16)))


class PacketsTest(FormsCase):
    def test_a_packet_of_each_kind(self):
        self.accepts(is_packet, *PACKETS)

    def test_which_packets_go_up(self):
        self.assertEqual([packet[0] for packet in PACKETS if goes_up(packet)], ["open", "up", "no"])
        for packet in PACKETS:
            self.assertIs(goes_up(packet), packet[0] in ("open", "up", "no"))

    def test_bounds_of_segments(self):
        for word in ("up", "down"):
            head = (word, FLOW, LIFE)
            data = tuple(range(8))
            self.accepts(
                is_packet, head + (0, (), 0, 0), head + (4000, (), 0, 0), head + (0, (), 1, 0), head + (0, (), 0, 4001),
                head + (0, (), 0, 4000), head + (0, (0, 255), 0, 0), head + (0, data, 0, 0))
            self.accepts(
                is_packet, head + (4000, data, 1, 4001), head + (3999, (1, 2), 0, 0), head + (4000, (1,), 0, 0))
            self.refuses(
                is_packet, head + (4001, (), 0, 0), head + (-1, (), 0, 0), head + (0, data + (8,), 0, 0),
                head + (0, (), 2, 0), head + (0, (), -1, 0), head + (0, (), 0, 4002), head + (0, (), 0, -1))

    def test_wrong_parts_of_segments(self):
        for word in ("up", "down"):
            head = (word, FLOW, LIFE)
            for wrong in (True, False, None, "0", 0.0, (0,), [0], {}):
                self.refuses(
                    is_packet, head + (wrong, (), 0, 0), head + (0, (), wrong, 0), head + (0, (), 0, wrong),
                    head + (0, (wrong,), 0, 0), head + (0, (1, wrong), 0, 0))
            self.refuses(
                is_packet, head + (0, None, 0, 0), head + (0, [], 0, 0), head + (0, [1, 2], 0, 0), head + (0, 7, 0, 0),
                head + (0, "ab", 0, 0), head + (0, b"ab", 0, 0), head + (0, (256,), 0, 0), head + (0, (-1,), 0, 0),
                head + (0, {}, 0, 0), head + (0, True, 0, 0))

    def test_wrong_flows_and_lives(self):
        for packet in PACKETS:
            for flow in ((6, 1), (0, 0), (0, 1000001), (True, 1), [0, 1], (0,), (0, 1, 1), None, 5, "flow"):
                self.refuses(is_packet, packet[:1] + (flow,) + packet[2:])
        for packet in PACKETS[1:]:
            for life in ((6, 1, 1), (0, 0, 1), (0, 1, 0), (0, 1, 1000001), (0, 1, True), [0, 1, 1], (0, 1), None, 5):
                self.refuses(is_packet, packet[:2] + (life,) + packet[3:])

    def test_wrong_words(self):
        for packet in PACKETS:
            for word in ("", "Open", "UP", "wrap", "close", "open ", "client"):
                self.refuses(is_packet, (word,) + packet[1:])
            for wrong in (None, 0, True, b"open", ("open",), ["open"]):
                self.refuses(is_packet, (wrong,) + packet[1:])

    def test_words_of_other_packets(self):
        same_form = {"open": {"open"}, "up": {"up", "down"}, "down": {"up", "down"}}
        for packet in PACKETS:
            for other in PACKETS:
                fits = other[0] in same_form.get(packet[0], {"hello", "gone", "no"})
                self.assertIs(is_packet(other[:1] + packet[1:]), fits, (other[0], packet[0]))

    def test_parts_left_out(self):
        for packet in PACKETS:
            for at in range(len(packet)):
                self.refuses(is_packet, packet[:at] + packet[at + 1:])
                self.refuses(is_packet, packet[:at])

    def test_parts_put_in(self):
        for packet in PACKETS:
            for at in range(len(packet) + 1):
                for part in (None, 0, (), FLOW, LIFE, "up"):
                    self.refuses(is_packet, packet[:at] + (part,) + packet[at:])

    def test_parts_exchanged(self):
        for packet in PACKETS:
            for at in range(len(packet)):
                for other in range(at):
                    parts = list(packet)
                    parts[at], parts[other] = parts[other], parts[at]
                    self.refuses(is_packet, tuple(parts))

    def test_lists_in_place_of_tuples(self):
        for packet in PACKETS:
            self.refuses(is_packet, list(packet), packet[:1] + (list(packet[1]),) + packet[2:], (packet,))


class PlaceTest(unittest.TestCase):
    def test_functions_are_defined_in_their_file(self):
        names = (
            "is_integer", "is_bytes", "is_flow", "is_birth", "is_life", "is_address", "is_packet", "goes_up",
            "bucket_of")
        for name in names:
            self.assertEqual(getattr(forms, name).__module__, "heldflows.forms")


if __name__ == "__main__":
    unittest.main()
