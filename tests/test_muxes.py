"""Points 500, 503 and 504: muxes."""

import unittest

from heldflows.muxes import Mux
from strange import Plain, STRANGE

# The bucket of this flow is 10.
FLOW = (2, 300)
LIFE = (0, 1, 7)
UP = [("open", FLOW), ("up", FLOW, LIFE, 5, (200, 8, 9), 1, 4001), ("no", FLOW, LIFE)]
DOWN = [("hello", FLOW, LIFE), ("down", FLOW, LIFE, 5, (200, 8, 9), 1, 4001), ("gone", FLOW, LIFE)]
ROWS = ((3, 1, (0, 1)), (10, 4, (4, 7)))


def mux_with(rows, number=1):
    """Returns a mux whose table has these rows."""
    mux = Mux(number)
    mux.receive(("table", rows))
    return mux


class MuxesCase(unittest.TestCase):
    def has_no_effect(self, mux, *values):
        rows = mux.rows()
        for value in values:
            self.assertEqual(mux.receive(value), [])
            self.assertEqual(mux.rows(), rows)


class PacketsTest(MuxesCase):
    def test_packets_up_with_a_row(self):
        for number in range(3):
            mux = mux_with(ROWS, number)
            for packet in UP:
                self.assertEqual(mux.receive(packet), [(("agent", 4), ("wrap", 10, 8, packet))])
                self.assertEqual(mux.rows(), ROWS)

    def test_packets_up_without_a_row(self):
        self.has_no_effect(Mux(0), *UP)
        self.has_no_effect(mux_with(ROWS[:1]), *UP)
        self.has_no_effect(mux_with(tuple((bucket, 1, (0, 1)) for bucket in range(16) if bucket != 10)), *UP)

    def test_packets_down(self):
        self.has_no_effect(Mux(0), *DOWN)
        self.has_no_effect(mux_with(ROWS), *DOWN)

    def test_the_bucket_of_each_flow(self):
        rows = tuple((bucket, 1, (bucket % 6, bucket + 1)) for bucket in range(16))
        mux = mux_with(rows)
        for client in range(6):
            for number in list(range(1, 40)) + [999999, 1000000]:
                bucket = (5 * number + 7 * client) % 16
                packet = ("open", (client, number))
                self.assertEqual(mux.receive(packet), [(("agent", bucket % 6), ("wrap", bucket, 8, packet))])

    def test_the_first_and_the_last_bucket(self):
        mux = mux_with(((0, 0, (5, 1000000)), (15, 1000000, (0, 1))))
        self.assertEqual(
            mux.receive(("open", (0, 16))), [(("agent", 5), ("wrap", 0, 8, ("open", (0, 16))))])
        self.assertEqual(mux.receive(("open", (0, 3))), [(("agent", 0), ("wrap", 15, 8, ("open", (0, 3))))])

    def test_the_same_packet_again(self):
        mux = mux_with(ROWS)
        for _ in range(3):
            self.assertEqual(mux.receive(UP[0]), [(("agent", 4), ("wrap", 10, 8, UP[0]))])

    def test_any_mux_may_pass_on_any_packet(self):
        first, second = mux_with(ROWS, 0), mux_with(ROWS, 2)
        for packet in UP:
            self.assertEqual(first.receive(packet), second.receive(packet))

    def test_kinds_of_values(self):
        mux = mux_with(ROWS)
        sent = mux.receive(UP[0])
        self.assertIs(type(sent), list)
        self.assertIs(type(sent[0]), tuple)
        self.assertIs(type(mux.receive(None)), list)
        self.assertIs(type(mux.receive(("table", ()))), list)
        self.assertIs(type(mux.rows()), tuple)
        self.assertIsNone(mux.forget())

    def test_lists_may_be_changed(self):
        mux = mux_with(ROWS)
        mux.receive(UP[0]).clear()
        self.assertEqual(mux.receive(UP[0]), [(("agent", 4), ("wrap", 10, 8, UP[0]))])
        for value in (None, DOWN[0], ("table", ()), ("open", (0, 16))):
            mux.receive(value).append(1)
            self.assertEqual(mux.receive(value), [])


class TablesTest(MuxesCase):
    def test_a_new_mux_has_no_rows(self):
        for number in range(3):
            self.assertEqual(Mux(number).rows(), ())

    def test_rows_are_taken_in_order(self):
        mux = Mux(2)
        self.assertEqual(mux.receive(("table", ((10, 1, (1, 1)), (3, 1, (0, 1)), (10, 1, (2, 1)), (3, 2, (5, 1))))), [])
        self.assertEqual(mux.rows(), ((3, 2, (5, 1)), (10, 1, (1, 1))))
        self.assertEqual(mux.receive(UP[0]), [(("agent", 1), ("wrap", 10, 8, UP[0]))])
        self.assertEqual(mux.receive(("table", ((10, 0, (4, 1)), (3, 1, (4, 1)), (10, 2, (3, 9))))), [])
        self.assertEqual(mux.rows(), ((3, 2, (5, 1)), (10, 2, (3, 9))))
        self.assertEqual(mux.receive(UP[0]), [(("agent", 3), ("wrap", 10, 8, UP[0]))])
        self.assertEqual(mux.receive(("table", ((10, 2, (0, 1)),))), [])
        self.assertEqual(mux.receive(UP[0]), [(("agent", 3), ("wrap", 10, 8, UP[0]))])

    def test_a_table_without_rows(self):
        mux = mux_with(ROWS)
        self.assertEqual(mux.receive(("table", ())), [])
        self.assertEqual(mux.rows(), ROWS)

    def test_muxes_share_nothing(self):
        first, second = mux_with(ROWS, 0), Mux(0)
        self.assertEqual(second.rows(), ())
        second.receive(("table", ROWS))
        first.forget()
        self.assertEqual(second.rows(), ROWS)

    def test_forget_and_then_tables_again(self):
        mux = mux_with(ROWS)
        mux.forget()
        self.assertEqual(mux.rows(), ())
        self.has_no_effect(mux, *UP)
        mux.receive(("table", ((10, 1, (0, 1)),)))
        self.assertEqual(mux.rows(), ((10, 1, (0, 1)),))
        self.assertEqual(mux.receive(UP[1]), [(("agent", 0), ("wrap", 10, 8, UP[1]))])
        mux.receive(("table", ROWS))
        self.assertEqual(mux.rows(), ROWS)
        mux.forget()
        mux.forget()
        self.assertEqual(mux.rows(), ())


class NoMessagesTest(MuxesCase):
    def test_values_of_any_kind(self):
        for mux in (Mux(0), mux_with(ROWS)):
            self.has_no_effect(mux, *STRANGE)

    def test_messages_to_others(self):
        self.has_no_effect(
            mux_with(ROWS), ("wrap", 10, 8, UP[0]), ("births", ()), ("born", (0, 1)), ("known", (0, 1), 3, 1),
            ("held", (0, 1), 3), ("stop", 3, 9, ()), ("table",), ("table", (), ()))

    def test_tables_with_a_row_that_is_none(self):
        mux = mux_with(ROWS)
        newer = (10, 9, (1, 1))
        for row in (
                (3, 9), (3, 9, (0, 1), 0), (16, 9, (0, 1)), (-1, 9, (0, 1)), (3, 1000001, (0, 1)), (3, -1, (0, 1)),
                (3, 9, (6, 1)), (3, 9, (0, 0)), (3, 9, None), (3, True, (0, 1)), (True, 9, (0, 1)), [3, 9, (0, 1)],
                (3, 9, [0, 1]), (None, 9, (0, 1)), None, 3, "row", ()):
            self.has_no_effect(mux, ("table", (row,)), ("table", (newer, row)), ("table", (row, newer)))
        for rows in ([newer], newer, None, 3, "rows", {}, {newer: 1}):
            self.has_no_effect(mux, ("table", rows))

    def test_packets_with_one_part_spoilt(self):
        mux = mux_with(tuple((bucket, 1, (0, 1)) for bucket in range(16)))
        for packet in UP:
            for at in range(len(packet)):
                for part in (None, True, False, -1, 10 ** 7, "", "x", (0,), (256,), [], {}, 1.0, Plain()):
                    if (at, part) != (4, (0,)):
                        self.has_no_effect(mux, packet[:at] + (part,) + packet[at + 1:])
                self.has_no_effect(mux, packet[:at] + packet[at + 1:], packet[:at])
            self.has_no_effect(mux, list(packet), packet + (0,), packet + packet, (packet,))


class PlaceTest(unittest.TestCase):
    def test_names_are_defined_in_their_file(self):
        self.assertEqual(Mux.__module__, "heldflows.muxes")
        for name in ("receive", "forget", "rows"):
            self.assertIn(name, vars(Mux))


if __name__ == "__main__":
    unittest.main()
