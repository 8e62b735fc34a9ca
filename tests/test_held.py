"""Points 302 to 306: a life of a flow at an agent."""

import random
import unittest

from answers import answers_to
from heldflows import held
from heldflows.ends import End
from heldflows.held import Held, held_of

FLOW = (1, 2)
LIFE = (3, 4, 5)
HELLO = ("hello", FLOW, LIFE)
NEW_END = (0, (), 0, 0, 0, 0, (), None)


def up(offset, data, last=0, taken=0):
    return ("up", FLOW, LIFE, offset, data, last, taken)


def down(offset, data, last=0, taken=0):
    return ("down", FLOW, LIFE, offset, data, last, taken)


class HeldCase(unittest.TestCase):
    def looks(self, held_flow, eaten, met, end):
        self.assertEqual(held_flow.picture(), (eaten, met, end))
        self.assertEqual(held_flow.eaten(), eaten)
        self.assertIs(held_flow.has_met(), met == 1)
        self.assertEqual((held_flow.flow(), held_flow.life()), (FLOW, LIFE))

    def takes(self, held_flow, *packets):
        for packet in packets:
            self.assertEqual(held_flow.take(packet), [], packet)


class NewTest(HeldCase):
    def test_it_has_written_and_taken_nothing(self):
        held_flow = Held(FLOW, LIFE)
        self.looks(held_flow, (), 0, NEW_END)
        self.assertEqual(held_flow.tick(), [HELLO, down(0, ())])

    def test_flow_and_life(self):
        for flow, life in (((0, 1), (0, 1, 1)), ((5, 1000000), (5, 1000000, 1000000))):
            held_flow = Held(flow, life)
            self.assertEqual((held_flow.flow(), held_flow.life()), (flow, life))
            self.assertEqual(held_flow.take(("open", flow)), [("hello", flow, life)])
            self.assertEqual(held_flow.tick(), [("hello", flow, life), ("down", flow, life, 0, (), 0, 0)])
            held_flow.take(("up", flow, life, 0, (9, 8), 0, 0))
            self.assertEqual(held_flow.tick(), [("down", flow, life, 0, answers_to(flow, (9, 8)), 0, 2)])

    def test_kinds_of_values(self):
        held_flow = Held(FLOW, LIFE)
        self.assertIs(type(held_flow.take(("open", FLOW))), list)
        self.assertIs(type(held_flow.take(up(0, (1,)))), list)
        self.assertIs(type(held_flow.tick()), list)
        self.assertIs(type(held_flow.picture()), tuple)
        self.assertIs(type(held_flow.picture()[0]), tuple)
        self.assertIs(type(held_flow.picture()[1]), int)
        self.assertIs(type(held_flow.eaten()), tuple)

    def test_held_flows_share_nothing(self):
        first, second = Held(FLOW, LIFE), Held(FLOW, LIFE)
        self.takes(first, up(0, (1, 2), 1))
        self.looks(second, (), 0, NEW_END)


class TakeTest(HeldCase):
    def test_open_before_and_behind_the_first_up(self):
        held_flow = Held(FLOW, LIFE)
        for _ in range(2):
            self.assertEqual(held_flow.take(("open", FLOW)), [HELLO])
            self.looks(held_flow, (), 0, NEW_END)
        self.takes(held_flow, up(0, (10,)))
        picture = held_flow.picture()
        for _ in range(2):
            self.assertEqual(held_flow.take(("open", FLOW)), [HELLO])
            self.looks(held_flow, *picture)
        self.assertIs(held_flow.has_met(), True)

    def test_up_meets_the_client(self):
        held_flow = Held(FLOW, LIFE)
        self.takes(held_flow, up(0, ()))
        self.looks(held_flow, (), 1, NEW_END)
        held_flow = Held(FLOW, LIFE)
        # These bytes lie ahead.
        self.takes(held_flow, up(8, (5, 6)))
        self.looks(held_flow, (), 1, (0, (), 0, 0, 0, 0, ((8, 5), (9, 6)), None))

    def test_the_app_answers(self):
        held_flow = Held(FLOW, LIFE)
        self.takes(held_flow, up(0, (10, 255)))
        self.looks(held_flow, (10, 255), 1, (0, (74, 74), 0, 0, 2, 0, (), None))
        self.takes(held_flow, up(2, (0,)))
        self.looks(held_flow, (10, 255, 0), 1, (0, (74, 74, 119), 0, 0, 3, 0, (), None))

    def test_bytes_that_were_taken_have_no_effect(self):
        held_flow = Held(FLOW, LIFE)
        self.takes(held_flow, up(0, (10, 255)), up(0, (10, 255)), up(0, (10,)))
        self.looks(held_flow, (10, 255), 1, (0, (74, 74), 0, 0, 2, 0, (), None))

    def test_bytes_that_lie_ahead(self):
        data = tuple(range(50, 66))
        held_flow = Held(FLOW, LIFE)
        self.takes(held_flow, up(8, data[8:]))
        self.assertEqual(held_flow.eaten(), ())
        self.assertEqual(held_flow.tick(), [down(0, ())])
        self.takes(held_flow, up(0, data[:8]))
        self.assertEqual(held_flow.eaten(), data)
        answers = answers_to(FLOW, data)
        self.assertEqual(held_flow.tick(), [down(0, answers[:8], 0, 16), down(8, answers[8:], 0, 16)])

    def test_what_the_client_has_taken(self):
        held_flow = Held(FLOW, LIFE)
        self.takes(held_flow, up(0, (10, 255)), up(2, (), 0, 1))
        self.looks(held_flow, (10, 255), 1, (1, (74,), 0, 0, 2, 0, (), None))
        self.takes(held_flow, up(2, (), 0, 2))
        self.looks(held_flow, (10, 255), 1, (2, (), 0, 0, 2, 0, (), None))
        self.assertEqual(held_flow.tick(), [down(2, (), 0, 2)])

    def test_the_end_of_the_clients_stream_closes_the_answers(self):
        held_flow = Held(FLOW, LIFE)
        self.takes(held_flow, up(0, (10, 255), 1))
        self.looks(held_flow, (10, 255), 1, (0, (74, 74), 1, 0, 2, 1, (), 2))
        self.assertEqual(held_flow.tick(), [down(0, (74, 74), 1, 3)])
        self.takes(held_flow, up(2, (), 1, 2))
        self.assertEqual(held_flow.tick(), [down(2, (), 1, 3)])
        self.looks(held_flow, (10, 255), 1, (2, (), 1, 0, 2, 1, (), 2))

    def test_an_empty_stream_that_ends(self):
        held_flow = Held(FLOW, LIFE)
        self.takes(held_flow, up(0, (), 1))
        self.looks(held_flow, (), 1, (0, (), 1, 0, 0, 1, (), 0))
        self.assertEqual(held_flow.tick(), [down(0, (), 1, 1)])

    def test_an_end_that_is_not_taken_yet(self):
        held_flow = Held(FLOW, LIFE)
        self.takes(held_flow, up(2, (), 1))
        self.looks(held_flow, (), 1, (0, (), 0, 0, 0, 0, (), 2))
        self.assertEqual(held_flow.tick(), [down(0, ())])
        self.takes(held_flow, up(0, (10, 255)))
        self.looks(held_flow, (10, 255), 1, (0, (74, 74), 1, 0, 2, 1, (), 2))

    def test_the_end_behind_bytes_that_were_taken(self):
        held_flow = Held(FLOW, LIFE)
        self.takes(held_flow, up(0, (10, 255)))
        self.assertEqual(held_flow.tick(), [down(0, (74, 74), 0, 2)])
        self.takes(held_flow, up(0, (10, 255), 1))
        self.assertEqual(held_flow.tick(), [down(0, (74, 74), 1, 3)])

    def test_lists_may_be_changed(self):
        held_flow = Held(FLOW, LIFE)
        held_flow.take(("open", FLOW)).clear()
        self.assertEqual(held_flow.take(("open", FLOW)), [HELLO])
        held_flow.take(up(0, (10,))).append(HELLO)
        self.assertEqual(held_flow.take(up(0, (10,))), [])
        held_flow.tick().clear()
        self.assertEqual(held_flow.tick(), [down(0, (74,), 0, 1)])


class TickTest(HeldCase):
    def test_hello_as_long_as_the_client_was_not_met(self):
        held_flow = Held(FLOW, LIFE)
        for _ in range(3):
            self.assertEqual(held_flow.tick(), [HELLO, down(0, ())])
            held_flow.take(("open", FLOW))
        self.takes(held_flow, up(0, ()))
        for _ in range(3):
            self.assertEqual(held_flow.tick(), [down(0, ())])
            held_flow.take(("open", FLOW))

    def test_a_packet_for_each_segment_that_is_due(self):
        data = tuple(range(100, 140))
        held_flow = Held(FLOW, LIFE)
        for at in range(0, 40, 8):
            self.takes(held_flow, up(at, data[at:at + 8], int(at == 32)))
        answers = answers_to(FLOW, data)
        first = [down(at, answers[at:at + 8], 0, 41) for at in (0, 8, 16, 24)]
        self.assertEqual(held_flow.tick(), first)
        self.takes(held_flow, up(40, (), 1, 9))
        self.assertEqual(
            held_flow.tick(),
            [down(9, answers[9:17], 0, 41), down(17, answers[17:25], 0, 41), down(25, answers[25:33], 0, 41),
             down(33, answers[33:], 1, 41)])

    def test_it_changes_nothing(self):
        held_flow = Held(FLOW, LIFE)
        self.takes(held_flow, up(0, (10, 255)), up(8, (1,), 1))
        picture = held_flow.picture()
        first = held_flow.tick()
        self.assertEqual(held_flow.tick(), first)
        self.looks(held_flow, *picture)


class MovedTest(HeldCase):
    def moved(self):
        """Returns held flows of several states, each with the packets `up` that may come then."""
        data = (10, 255, 0, 7, 8)
        rest = [up(3, data[3:], 1), up(0, data, 1), up(5, (), 1, 2), up(5, (), 1, 6)]
        states = [
            [], [up(0, ())], [up(0, data[:2])], [up(0, data[:2], 0, 0), up(2, data[2:4], 0, 1)], [up(4, data[4:])],
            [up(3, data[3:], 1)], [up(0, data, 1)], [up(0, data, 1), up(5, (), 1, 3)],
            [up(0, data, 1), up(5, (), 1, 6)],
        ]
        found = []
        for packets in states:
            held_flow = Held(FLOW, LIFE)
            self.takes(held_flow, *packets)
            found.append((held_flow, rest))
        return found

    def test_the_picture_of_a_new_one(self):
        other = held_of(FLOW, LIFE, ((), 0, NEW_END))
        self.assertIs(type(other), Held)
        self.looks(other, (), 0, NEW_END)
        self.assertEqual(other.take(("open", FLOW)), [HELLO])
        self.assertEqual(other.tick(), [HELLO, down(0, ())])
        self.takes(other, up(0, (10, 255)))
        self.assertEqual(other.tick(), [down(0, (74, 74), 0, 2)])

    def test_the_picture_of_one_that_has_met_the_client(self):
        other = held_of(FLOW, LIFE, ((), 1, NEW_END))
        self.looks(other, (), 1, NEW_END)
        self.assertEqual(other.tick(), [down(0, ())])
        other = held_of(FLOW, LIFE, ((10,), 1, (0, (74,), 0, 0, 1, 0, (), None)))
        self.takes(other, up(1, (255,)))
        self.assertEqual(other.eaten(), (10, 255))
        self.assertEqual(other.tick(), [down(0, (74, 74), 0, 2)])

    def test_the_picture_of_one_whose_end_is_closed(self):
        end = (1, (74,), 1, 0, 2, 1, (), 2)
        other = held_of(FLOW, LIFE, ((10, 255), 1, end))
        self.looks(other, (10, 255), 1, end)
        self.assertEqual(other.tick(), [down(1, (74,), 1, 3)])
        self.takes(other, up(2, (), 1, 3))
        self.looks(other, (10, 255), 1, (2, (), 1, 1, 2, 1, (), 2))

    def test_it_goes_on_as_the_other_one(self):
        for held_flow, packets in self.moved():
            other = held_of(FLOW, LIFE, held_flow.picture())
            for packet in packets:
                self.looks(other, *held_flow.picture())
                self.assertEqual(other.tick(), held_flow.tick())
                self.assertEqual(other.take(("open", FLOW)), held_flow.take(("open", FLOW)))
                self.assertEqual(other.take(packet), held_flow.take(packet))
                other = held_of(FLOW, LIFE, other.picture())
            self.looks(held_flow, (10, 255, 0, 7, 8), 1, (5, (), 1, 1, 5, 1, (), 5))
            self.looks(other, *held_flow.picture())

    def test_they_do_not_change_each_other(self):
        for held_flow, packets in self.moved():
            picture = held_flow.picture()
            other = held_of(FLOW, LIFE, picture)
            third = held_of(FLOW, LIFE, picture)
            self.takes(other, *packets)
            self.looks(held_flow, *picture)
            self.looks(third, *picture)
            self.takes(held_flow, *packets)
            self.looks(third, *picture)

    def test_eaten_before_and_after_a_move(self):
        held_flow = Held(FLOW, LIFE)
        self.takes(held_flow, up(0, (10, 255)))
        self.assertEqual(held_flow.eaten(), (10, 255))
        held_flow = held_of(FLOW, LIFE, held_flow.picture())
        self.assertEqual(held_flow.eaten(), (10, 255))
        self.takes(held_flow, up(2, (0,)))
        self.assertEqual(held_flow.eaten(), (10, 255, 0))
        held_flow = held_of(FLOW, LIFE, held_flow.picture())
        self.assertEqual(held_flow.eaten(), (10, 255, 0))


class StreamsTest(HeldCase):
    def test_drawn_orders(self):
        for seed in range(100):
            choices = random.Random(seed)
            flow = (choices.randrange(6), choices.randrange(1, 1000001))
            client = End()
            held_flow = Held(flow, LIFE)
            written, read = (), ()
            going_up, going_down = [], []
            for step in range(200):
                kind = choices.randrange(6)
                if kind == 0 and step < 150:
                    data = tuple(choices.randrange(256) for _ in range(choices.randrange(12)))
                    client.write(data)
                    written += data
                elif kind == 1:
                    going_up.extend(client.due())
                    going_down.extend(held_flow.tick())
                elif kind == 2:
                    held_flow = held_of(flow, LIFE, held_flow.picture())
                elif kind == 3 and step >= 150:
                    client.close()
                elif going_up and going_down:
                    at = choices.randrange(len(going_up))
                    segment = going_up[at] if choices.random() < 0.3 else going_up.pop(at)
                    held_flow.take(("up", flow, LIFE) + segment)
                    at = choices.randrange(len(going_down))
                    packet = going_down[at] if choices.random() < 0.3 else going_down.pop(at)
                    if packet[0] == "down":
                        read += client.take(*packet[3:])
                eaten = held_flow.eaten()
                answers = answers_to(flow, eaten)
                base, pending, closed = held_flow.picture()[2][:3]
                self.assertEqual(eaten, written[:len(eaten)])
                self.assertEqual((base + len(pending), pending), (len(answers), answers[base:]))
                self.assertEqual(read, answers[:len(read)])
                if closed == 1:
                    self.assertEqual((eaten, client.picture()[2]), (written, 1))


class PlaceTest(unittest.TestCase):
    def test_names_are_defined_in_their_file(self):
        self.assertEqual((Held.__module__, held.held_of.__module__), ("heldflows.held", "heldflows.held"))
        for name in ("take", "tick", "picture", "flow", "life", "has_met", "eaten"):
            self.assertIn(name, vars(Held))


if __name__ == "__main__":
    unittest.main()
