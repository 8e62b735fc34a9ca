"""Points 107 to 110."""

import itertools
import random
import unittest

from heldflows import wire
from heldflows.errors import BadBytes
from heldflows.wire import can_be_written, read, write
from strange import OTHERS, STRANGE, WRITABLE, nested

PACKET = ("up", (2, 300), (0, 1, 70000), 4000, (0, 255, 7), 1, 4001)
VALUES = [
    None, 0, 1, 255, 256, 300, 65535, 65536, 16777215, 16777216, 4294967294, 4294967295,
    "a", "z", "no", "abcdefghijkl", "mnopqrstuvwx", "yz",
    (), ((),), ((), ()), (None,), (0,), ("a",), (0, None, "a", (1,)), (None,) * 255, (0,) * 256, (7,) * 300,
    ("no", (), None, 0, 65536), ("open", (2, 300)), PACKET, ("wrap", 3, 8, PACKET), nested(16),
]


def with_sum(body):
    """Returns the bytes with their sum behind them."""
    total = 0
    for place in range(len(body)):
        total += (place + 1) * body[place]
    rest = total % 65521
    return tuple(body) + (rest // 256, rest % 256)


def number_bytes(number):
    """Returns what point 108 puts down for a number."""
    many = (number.bit_length() + 7) // 8
    return (many,) + tuple(number.to_bytes(many, "big"))


def value_bytes(value):
    """Returns what point 108 puts down for a value, without the sum."""
    if value is None:
        return (0,)
    if isinstance(value, int):
        return (1,) + number_bytes(value)
    if isinstance(value, str):
        return (2,) + number_bytes(len(value)) + tuple(value.encode("ascii"))
    row = (3,) + number_bytes(len(value))
    for item in value:
        row += value_bytes(item)
    return row


def made_up(choices, levels):
    """Returns a value that can be written, at most so many levels deep."""
    kind = choices.randrange(5 if levels > 0 else 3)
    if kind == 0:
        return None
    if kind == 1:
        return choices.randrange(256 ** choices.randrange(1, 5))
    if kind == 2:
        return "".join(choices.choices("abcdefghijklmnopqrstuvwxyz", k=choices.randrange(1, 13)))
    return tuple(made_up(choices, levels - 1) for _ in range(choices.randrange(6)))


class WireCase(unittest.TestCase):
    def refuses(self, row):
        with self.assertRaises(BadBytes, msg=row if isinstance(row, tuple) and len(row) < 100 else None):
            read(row)

    def cannot_write(self, value):
        self.assertIs(can_be_written(value), False)
        with self.assertRaises(BadBytes):
            write(value)


class CanBeWrittenTest(WireCase):
    def test_values_that_can_be_written(self):
        for value in VALUES:
            self.assertIs(can_be_written(value), True, value)

    def test_integers_out_of_range(self):
        for value in (-1, 4294967296, 2 ** 40, 10 ** 30):
            self.cannot_write(value)
            self.cannot_write((1, value))

    def test_true_and_false(self):
        for value in (True, False):
            self.cannot_write(value)
            self.cannot_write((value,))
            self.cannot_write(("up", (1, value)))

    def test_words(self):
        words = (
            "", "abcdefghijklm", "a" * 1000, "A", "Z", "Open", "opeN", "a b", " a", "a ", "a\n", "a1", "0", "a_b",
            "a-b", "`", "{", "@", "[", "\u00e9", "caf\u00e9", "\u00df", "\uff41", "\u0430", "\U0001d41a",
            "\ud800", "\0")
        for word in words:
            self.cannot_write(word)
            self.cannot_write((word,))

    def test_how_deep(self):
        for levels in range(1, 17):
            self.assertIs(can_be_written(nested(levels)), True)
        for levels in (17, 18, 1000, 100000):
            self.cannot_write(nested(levels))
        for inner in (None, 7, "a"):
            value = inner
            for _ in range(16):
                value = (value,)
            self.assertIs(can_be_written(value), True)
            self.assertEqual(read(write(value)), value)
            self.cannot_write((value,))
        self.cannot_write((1, "a", nested(16)))
        self.cannot_write((nested(16), None, 1))

    def test_whatever_the_number_of_bytes(self):
        self.assertIs(can_be_written((None,) * 100000), True)
        self.assertIs(can_be_written(((0,) * 30000, ("a",) * 30000)), True)
        self.assertIs(can_be_written((None,) * 100000 + (True,)), False)

    def test_values_of_any_kind(self):
        for value in WRITABLE:
            self.assertIs(can_be_written(value), True)
        for value in OTHERS:
            self.cannot_write(value)


class WriteTest(WireCase):
    def test_the_bytes_of_the_document(self):
        self.assertEqual(
            write(("open", (2, 300))),
            (3, 1, 2, 2, 1, 4, 111, 112, 101, 110, 3, 1, 2, 1, 1, 2, 1, 2, 1, 44, 18, 206))
        self.assertEqual(write(0), (1, 0, 0, 1))
        self.assertEqual(write(()), (3, 0, 0, 3))

    def test_none(self):
        self.assertEqual(write(None), (0, 0, 0))

    def test_integers(self):
        self.assertEqual(write(1), (1, 1, 1, 0, 6))
        self.assertEqual(write(255), (1, 1, 255, 3, 0))
        self.assertEqual(write(256)[:-2], (1, 2, 1, 0))
        self.assertEqual(write(300)[:-2], (1, 2, 1, 44))
        self.assertEqual(write(65536)[:-2], (1, 3, 1, 0, 0))
        self.assertEqual(write(4294967295)[:-2], (1, 4, 255, 255, 255, 255))

    def test_words(self):
        self.assertEqual(write("a"), (2, 1, 1, 97, 1, 139))
        self.assertEqual(write("abcdefghijkl")[:-2], (2, 1, 12) + tuple(range(97, 109)))
        self.assertEqual(write("z")[:-2], (2, 1, 1, 122))

    def test_tuples(self):
        self.assertEqual(write((None,) * 255)[:-2], (3, 1, 255) + (0,) * 255)
        self.assertEqual(write((None,) * 256)[:-2], (3, 2, 1, 0) + (0,) * 256)
        self.assertEqual(write(((), (0,)))[:-2], (3, 1, 2, 3, 0, 3, 1, 1, 1, 0))

    def test_the_sum_is_a_rest(self):
        # The bytes in front have the sums 9 * 65521 and 9 * 65521 - 1.
        self.assertEqual(write((4294967295,) * 13 + (3432,))[-2:], (0, 0))
        self.assertEqual(write((4294967295,) * 13 + (3687,))[-2:], (255, 240))
        for many in (200, 700, 3000):
            value = (4294967295,) * many
            self.assertEqual(write(value), with_sum(value_bytes(value)))

    def test_values_against_the_words_of_the_document(self):
        choices = random.Random(7)
        for value in VALUES + [made_up(choices, 5) for _ in range(500)]:
            row = write(value)
            self.assertIs(type(row), tuple)
            self.assertEqual(row, with_sum(value_bytes(value)))
            self.assertEqual(read(row), value)

    def test_as_many_bytes_as_are_allowed(self):
        row = write((None,) * 59994)
        self.assertEqual(len(row), 60000)
        self.assertEqual(read(row), (None,) * 59994)
        row = write((None,) * 59990 + (0, 0))
        self.assertEqual(len(row), 60000)
        self.assertEqual(read(row), (None,) * 59990 + (0, 0))

    def test_too_many_bytes(self):
        for value in ((None,) * 59995, (None,) * 59991 + (0, 0), (None,) * 100000, ((0,) * 20000, ("a",) * 20000)):
            self.assertIs(can_be_written(value), True)
            with self.assertRaises(BadBytes):
                write(value)

    def test_a_shared_tuple_that_is_far_too_large(self):
        value = ()
        for _ in range(15):
            value = (value,) * 100
        with self.assertRaises(BadBytes):
            write(value)

    def test_values_of_any_kind(self):
        for value in WRITABLE:
            self.assertEqual(read(write(value)), value)


class ReadTest(WireCase):
    def test_the_example_of_the_interface(self):
        value = ("no", (), None, 0, 65536)
        self.assertEqual(read(write(value)), value)
        self.refuses((0, 0, 1))

    def test_values_have_the_right_kinds(self):
        self.assertIs(read((0, 0, 0)), None)
        self.assertIs(type(read((1, 0, 0, 1))), int)
        self.assertIs(type(read((3, 0, 0, 3))), tuple)
        self.assertIs(type(read((2, 1, 1, 97, 1, 139))), str)

    def test_one_byte_changed(self):
        for value in (None, 0, 300, "no", (), ("open", (2, 300)), PACKET):
            row = write(value)
            for at in range(len(row)):
                for byte in range(256):
                    if byte != row[at]:
                        self.refuses(row[:at] + (byte,) + row[at + 1:])

    def test_one_byte_changed_in_a_long_row(self):
        row = write((None,) * 59994)
        for at in (0, 1, 2, 3, 4, 59997, 59998, 59999):
            self.refuses(row[:at] + ((row[at] + 1) % 256,) + row[at + 1:])

    def test_two_bytes_exchanged(self):
        for value in (None, 0, 300, "no", ("open", (2, 300)), PACKET, (7,) * 40):
            row = write(value)
            for at in range(len(row)):
                for other in range(at):
                    if row[at] != row[other]:
                        parts = list(row)
                        parts[at], parts[other] = parts[other], parts[at]
                        self.refuses(tuple(parts))

    def test_bytes_taken_from_the_end(self):
        for value in VALUES:
            row = write(value)
            for many in range(1, len(row) + 1):
                self.refuses(row[:-many])

    def test_bytes_added_at_the_end(self):
        for value in VALUES:
            row = write(value)
            for byte in range(256):
                self.refuses(row + (byte,))
            self.refuses(row + row)
            self.refuses(row + row[-2:])
            self.refuses(row + (0, 0, 0))

    def test_bytes_added_with_a_right_sum(self):
        for value in VALUES:
            body = write(value)[:-2]
            for more in ((0,), (1,), (255,), (0, 0), (1, 0), body):
                self.refuses(with_sum(body + more))

    def test_bytes_missing_with_a_right_sum(self):
        for value in VALUES:
            body = write(value)[:-2]
            for many in range(1, len(body) + 1):
                self.refuses(with_sum(body[:-many]))

    def test_numbers_of_the_wrong_form(self):
        wrong = (
            (1, 0), (1, 0, 5), (2, 0, 0), (2, 0, 200), (3, 0, 1, 1), (4, 0, 1, 1, 1), (4, 0, 0, 0, 0),
            (5, 1, 0, 0, 0, 0), (5, 0, 1, 0, 0, 0), (5, 255, 255, 255, 255, 255), (6, 1, 0, 0, 0, 0, 0),
            (255,) + (1,) * 255)
        for digits in wrong:
            self.refuses(with_sum((1,) + digits))
            self.refuses(with_sum((3, 1, 1, 1) + digits))
            self.refuses(with_sum((2,) + digits + (97,)))
            self.refuses(with_sum((3,) + digits + (0,)))

    def test_the_greatest_number(self):
        self.assertEqual(read(with_sum((1, 4, 255, 255, 255, 255))), 4294967295)
        self.refuses(with_sum((1, 5, 1, 0, 0, 0, 0)))

    def test_numbers_of_items_that_are_not_there(self):
        self.refuses(with_sum((3, 4, 255, 255, 255, 255)))
        self.refuses(with_sum((3, 4, 255, 255, 255, 255, 0, 0)))
        self.refuses(with_sum((2, 4, 255, 255, 255, 255, 97)))

    def test_words_of_the_wrong_form(self):
        self.refuses(with_sum((2, 0)))
        self.refuses(with_sum((2, 1, 13) + (97,) * 13))
        self.refuses(with_sum((2, 2, 1, 44) + (97,) * 300))
        for code in (0, 32, 48, 64, 65, 90, 91, 95, 96, 123, 128, 225, 255):
            self.refuses(with_sum((2, 1, 1, code)))
            self.refuses(with_sum((2, 1, 3, 97, code, 97)))
        for code in range(97, 123):
            self.assertEqual(read(with_sum((2, 1, 1, code))), chr(code))

    def test_first_bytes_that_are_unknown(self):
        for kind in range(4, 256):
            for more in ((), (0,), (1, 1), (1, 0)):
                self.refuses(with_sum((kind,) + more))
                self.refuses(with_sum((3, 1, 1, kind) + more))

    def test_how_deep(self):
        for levels in range(1, 17):
            self.assertEqual(read(with_sum((3, 1, 1) * (levels - 1) + (3, 0))), nested(levels))
        for levels in (17, 18, 100, 15000):
            self.refuses(with_sum((3, 1, 1) * (levels - 1) + (3, 0)))
        for inner in ((0,), (1, 0), (2, 1, 1, 97)):
            read(with_sum((3, 1, 1) * 16 + inner))
            self.refuses(with_sum((3, 1, 1) * 17 + inner))

    def test_more_bytes_than_are_allowed(self):
        # With two bytes for 59994 to 59996 items.
        for many in (59994, 59995, 59996):
            row = with_sum((3, 2, many // 256, many % 256) + (0,) * many)
            self.assertEqual(len(row), many + 6)
            if many == 59994:
                self.assertEqual(read(row), (None,) * many)
            else:
                self.refuses(row)
        self.refuses((0,) * 200000)

    def test_short_rows(self):
        self.refuses(())
        for byte in range(256):
            self.refuses((byte,))
        for row in itertools.product((0, 1, 2, 3, 255), repeat=2):
            self.refuses(row)

    def test_sums_that_are_not_a_rest(self):
        # 65521 and 65522 fit into two bytes, but they are no rests.
        self.assertEqual(read((1, 0, 0, 1)), 0)
        self.refuses((1, 0, 255, 242))
        self.assertEqual(read((0, 0, 0)), None)
        self.refuses((0, 255, 241))
        row = write((4294967295,) * 13 + (3432,))
        self.refuses(row[:-2] + (255, 241))
        self.refuses((1, 0, 1, 0))

    def test_what_is_read_has_exactly_these_bytes(self):
        found = {}
        for many in range(1, 7):
            for body in itertools.product((0, 1, 2, 3, 97), repeat=many):
                row = with_sum(body)
                try:
                    value = read(row)
                except BadBytes:
                    continue
                self.assertEqual(write(value), row)
                found[row] = value
        self.assertEqual(len(found), len(set(found.values())))
        self.assertIn((), found.values())
        self.assertIn(((), None), found.values())
        self.assertGreater(len(found), 50)

    def test_values_that_are_no_tuples_of_bytes(self):
        for value in STRANGE:
            self.refuses(value)
        for row in ([1, 0, 0, 1], b"\1\0\0\1", "1001", {1: 0}, (True, 0, 0, 1), (1, False, 0, 1), (1, 0, 0, True),
                    (1.0, 0, 0, 1), (1, 0, 0, 1.0), (1, None, 0, 1), (0, 0, 0, None), ((1, 0, 0, 1),), (1, 0, (0, 1)),
                    (1, 1, 256, 3, 3), (1, 1, -1, 0, 0), (0, -1, 256), (0, 1, -256), (0, 0, "0"), (0, 0, [0])):
            self.refuses(row)


class PlaceTest(unittest.TestCase):
    def test_functions_are_defined_in_their_file(self):
        for name in ("write", "read", "can_be_written"):
            self.assertEqual(getattr(wire, name).__module__, "heldflows.wire")


if __name__ == "__main__":
    unittest.main()
