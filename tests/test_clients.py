"""Points 400 to 405: the client."""

import random
import unittest

from answers import answers_to
from heldflows.clients import Client
from heldflows.errors import BadCall
from heldflows.held import Held, held_of
from strange import Plain, STRANGE

FLOW = (2, 1)
LIFE = (0, 1, 7)
OTHER = (3, 1, 1)
STATES = ("opening", "open", "ended", "gone")


def hello(life=LIFE, flow=FLOW):
    return ("hello", flow, life)


def gone(life=LIFE, flow=FLOW):
    return ("gone", flow, life)


def down(offset, data, last=0, taken=0, life=LIFE, flow=FLOW):
    return ("down", flow, life, offset, data, last, taken)


def up(offset, data, last=0, taken=0, life=LIFE, flow=FLOW):
    return ("up", flow, life, offset, data, last, taken)


def no(life=LIFE, flow=FLOW):
    return ("no", flow, life)


def client_in(state):
    """Returns a client with one flow, in this state, under LIFE unless it is opening."""
    client = Client(2)
    client.open_flow()
    client.write(1, (7, 8))
    if state != "opening":
        client.receive(hello())
        client.receive(down(0, (40, 41), 0, 1))
    if state == "ended":
        client.close(1)
        client.receive(down(2, (42,), 1, 3))
    if state == "gone":
        client.receive(gone())
    return client


class ClientCase(unittest.TestCase):
    def picture(self, client):
        """Returns all that the client tells of its flows."""
        flows = []
        for number in range(1, client.count() + 1):
            flows.append((
                client.state(number), client.life(number), client.written(number), client.is_closed(number),
                client.read(number)))
        return flows, client.tick()

    def looks(self, client, number, state, life, written, is_closed, read):
        self.assertEqual(client.state(number), state)
        self.assertEqual(client.life(number), life)
        self.assertEqual(client.written(number), written)
        self.assertIs(client.is_closed(number), is_closed)
        self.assertEqual(client.read(number), read)

    def has_no_effect(self, client, *values):
        before = self.picture(client)
        for value in values:
            self.assertEqual(client.receive(value), [])
            self.assertEqual(self.picture(client), before)


class OpenTest(ClientCase):
    def test_a_new_client(self):
        for number in range(6):
            client = Client(number)
            self.assertEqual(client.count(), 0)
            self.assertEqual(client.tick(), [])

    def test_numbers_in_the_order_of_opening(self):
        client = Client(5)
        for number in range(1, 40):
            self.assertEqual(client.open_flow(), number)
            self.assertEqual(client.count(), number)
            self.looks(client, number, "opening", None, (), False, ())
        self.assertEqual(client.tick(), [("open", (5, number)) for number in range(1, 40)])

    def test_clients_share_nothing(self):
        first, second = Client(2), Client(2)
        first.open_flow()
        self.assertEqual(second.count(), 0)
        self.assertEqual(second.open_flow(), 1)
        first.write(1, (1,))
        self.looks(second, 1, "opening", None, (), False, ())

    def test_the_example_of_the_interface(self):
        client = Client(2)
        self.assertEqual(client.open_flow(), 1)
        self.assertEqual(client.tick(), [("open", (2, 1))])
        self.assertEqual(client.receive(("hello", (2, 1), (0, 1, 7))), [])
        self.assertEqual(client.receive(("hello", (2, 1), (3, 1, 1))), [("no", (2, 1), (3, 1, 1))])
        client.write(1, (5,))
        self.assertEqual(client.tick(), [("up", (2, 1), (0, 1, 7), 0, (5,), 0, 0)])

    def test_kinds_of_values(self):
        client = client_in("open")
        self.assertIs(type(client.open_flow()), int)
        self.assertIsNone(client.write(1, (1,)))
        self.assertIsNone(client.close(1))
        for value in (client.read(1), client.written(1), client.life(1)):
            self.assertIs(type(value), tuple)
        self.assertIs(type(client.state(1)), str)
        self.assertIs(type(client.count()), int)
        self.assertIs(type(client.tick()), list)
        self.assertIs(type(client.receive(hello(OTHER))), list)
        self.assertIs(type(client.receive(None)), list)

    def test_as_many_flows_as_are_allowed(self):
        client = Client(1)
        for _ in range(1000000):
            number = client.open_flow()
        self.assertEqual(number, 1000000)
        for _ in range(2):
            with self.assertRaises(BadCall):
                client.open_flow()
            self.assertEqual(client.count(), 1000000)
        self.assertEqual(client.receive(hello(LIFE, (1, 1000000))), [])
        self.assertEqual(client.life(1000000), LIFE)
        with self.assertRaises(BadCall):
            client.state(1000001)


class ReceiveTest(ClientCase):
    def becomes(self, state, packet, packets, behind, life, read):
        client = client_in(state)
        closed = state == "ended"
        self.assertEqual(client.receive(packet), packets, (state, packet))
        self.looks(client, 1, behind, life, (7, 8), closed, read)

    def stays(self, state, packet, packets):
        client = client_in(state)
        before = self.picture(client)
        self.assertEqual(client.receive(packet), packets, (state, packet))
        self.assertEqual(self.picture(client), before, (state, packet))

    def test_the_states_as_they_are(self):
        self.looks(client_in("opening"), 1, "opening", None, (7, 8), False, ())
        self.looks(client_in("open"), 1, "open", LIFE, (7, 8), False, (40, 41))
        self.looks(client_in("ended"), 1, "ended", LIFE, (7, 8), True, (40, 41, 42))
        self.looks(client_in("gone"), 1, "gone", LIFE, (7, 8), False, (40, 41))

    def test_opening_and_hello(self):
        self.becomes("opening", hello(), [], "open", LIFE, ())
        self.becomes("opening", hello(OTHER), [], "open", OTHER, ())

    def test_opening_and_others(self):
        for life in (LIFE, OTHER):
            for packet in (down(0, (), 0, 0, life), down(0, (1, 2), 1, 1, life), gone(life)):
                self.stays("opening", packet, [])

    def test_open_and_down_of_the_adopted_life(self):
        self.becomes("open", down(2, (42, 43)), [], "open", LIFE, (40, 41, 42, 43))
        self.becomes("open", down(0, (40, 41, 42)), [], "open", LIFE, (40, 41, 42))
        self.becomes("open", down(0, (40, 41)), [], "open", LIFE, (40, 41))
        self.becomes("open", down(2, ()), [], "open", LIFE, (40, 41))
        self.becomes("open", down(3, (43,)), [], "open", LIFE, (40, 41))
        self.becomes("open", down(3, (43,), 1), [], "open", LIFE, (40, 41))

    def test_open_and_a_down_that_ends_the_flow(self):
        self.becomes("open", down(2, (42, 43), 1), [no()], "ended", LIFE, (40, 41, 42, 43))
        self.becomes("open", down(0, (40, 41), 1), [no()], "ended", LIFE, (40, 41))
        self.becomes("open", down(2, (), 1), [no()], "ended", LIFE, (40, 41))

    def test_the_end_comes_ahead_of_the_bytes_before_it(self):
        client = client_in("open")
        self.assertEqual(client.receive(down(3, (43,), 1)), [])
        self.assertEqual(client.state(1), "open")
        self.assertEqual(client.tick(), [up(1, (8,), 0, 2)])
        self.assertEqual(client.receive(down(2, (42,))), [no()])
        self.looks(client, 1, "ended", LIFE, (7, 8), False, (40, 41, 42, 43))
        # It has ended only once, but what comes behind is refused like all others.
        self.assertEqual(client.receive(down(2, (42,))), [no()])
        self.looks(client, 1, "ended", LIFE, (7, 8), False, (40, 41, 42, 43))

    def test_open_and_gone_of_the_adopted_life(self):
        self.becomes("open", gone(), [], "gone", LIFE, (40, 41))

    def test_open_and_hello_of_the_adopted_life(self):
        self.stays("open", hello(), [])

    def test_open_and_another_life(self):
        self.stays("open", gone(OTHER), [])
        self.stays("open", hello(OTHER), [no(OTHER)])
        for packet in (
                down(0, (), 0, 0, OTHER), down(2, (42,), 0, 2, OTHER), down(2, (42,), 1, 2, OTHER),
                down(2, (), 1, 0, OTHER)):
            self.stays("open", packet, [no(OTHER)])

    def test_lives_that_are_nearly_alike(self):
        for life in ((1, 1, 7), (0, 2, 7), (0, 1, 8), (0, 7, 1)):
            self.stays("open", gone(life), [])
            self.stays("open", hello(life), [no(life)])
            self.stays("open", down(2, (42,), 0, 0, life), [no(life)])

    def test_ended_and_gone(self):
        for state in ("ended", "gone"):
            for life in (LIFE, OTHER):
                self.stays(state, hello(life), [no(life)])
                self.stays(state, gone(life), [])
                for packet in (
                        down(0, (40, 41), 0, 0, life), down(2, (42,), 1, 0, life), down(3, (), 1, 3, life),
                        down(2, (42, 43), 0, 2, life)):
                    self.stays(state, packet, [no(life)])

    def test_what_the_app_has_taken_is_known(self):
        client = client_in("open")
        self.assertEqual(client.tick(), [up(1, (8,), 0, 2)])
        client.receive(down(2, (), 0, 2))
        self.assertEqual(client.tick(), [up(2, (), 0, 2)])
        client.receive(down(0, (40,), 0, 1))
        self.assertEqual(client.tick(), [up(2, (), 0, 2)])

    def test_several_flows(self):
        client = Client(4)
        for _ in range(3):
            client.open_flow()
        self.assertEqual(client.receive(hello(OTHER, (4, 3))), [])
        self.assertEqual(client.receive(hello(LIFE, (4, 1))), [])
        self.looks(client, 1, "open", LIFE, (), False, ())
        self.looks(client, 2, "opening", None, (), False, ())
        self.looks(client, 3, "open", OTHER, (), False, ())
        self.assertEqual(client.receive(down(0, (9,), 0, 0, OTHER, (4, 3))), [])
        self.assertEqual(client.receive(down(0, (9,), 0, 0, OTHER, (4, 1))), [no(OTHER, (4, 1))])
        self.assertEqual(client.receive(down(0, (9,), 0, 0, LIFE, (4, 2))), [])
        self.assertEqual(client.receive(gone(LIFE, (4, 1))), [])
        self.looks(client, 1, "gone", LIFE, (), False, ())
        self.looks(client, 2, "opening", None, (), False, ())
        self.looks(client, 3, "open", OTHER, (), False, (9,))


class NoEffectTest(ClientCase):
    def test_flows_of_other_clients(self):
        for state in STATES:
            client = client_in(state)
            for other in (0, 1, 3, 4, 5):
                flow = (other, 1)
                self.has_no_effect(
                    client, hello(LIFE, flow), hello(OTHER, flow), gone(LIFE, flow), down(2, (42,), 1, 2, LIFE, flow))

    def test_flows_that_are_not_opened(self):
        for state in STATES:
            client = client_in(state)
            for number in (2, 3, 1000000):
                flow = (2, number)
                self.has_no_effect(
                    client, hello(LIFE, flow), hello(OTHER, flow), gone(LIFE, flow), down(2, (42,), 1, 2, LIFE, flow))
        self.has_no_effect(Client(2), hello(), gone(), down(0, (1,), 0, 0))

    def test_packets_that_go_up(self):
        for state in STATES:
            client = client_in(state)
            for life in (LIFE, OTHER):
                self.has_no_effect(
                    client, ("open", FLOW), no(life), up(0, (), 0, 0, life), up(2, (42,), 1, 2, life))

    def test_packets_with_one_part_spoilt(self):
        spoilt = (None, True, False, -1, 4002, 10 ** 7, "", "x", (), (0,), (256,), [], [2, 1], {}, 1.0, Plain())
        for state in STATES:
            client = client_in(state)
            for packet in (hello(), hello(OTHER), gone(), down(2, (42,), 1, 2), down(2, (42,), 1, 2, OTHER)):
                for at in range(len(packet)):
                    for part in spoilt:
                        if (at, part) not in ((4, ()), (4, (0,))) and not (at == 6 and type(part) is int):
                            self.has_no_effect(client, packet[:at] + (part,) + packet[at + 1:])
                    self.has_no_effect(client, packet[:at] + packet[at + 1:], packet[:at], list(packet))
                self.has_no_effect(client, packet + (0,), packet + packet, (packet,))
            self.has_no_effect(
                client, down(4001, (42,), 1, 2), down(2, (42,), 2, 2), down(2, (42,) * 9, 1, 2),
                down(2, (42,), 1, 4002), down(2, (42,), 1, -1))

    def test_values_of_any_kind(self):
        for state in STATES:
            self.has_no_effect(client_in(state), *STRANGE)
        for value in (("table", ()), ("wrap", 3, 8, ("open", FLOW)), ("born", (0, 1)), ("births", ())):
            self.has_no_effect(client_in("open"), value)


class TickTest(ClientCase):
    def test_each_state(self):
        self.assertEqual(client_in("opening").tick(), [("open", FLOW)])
        self.assertEqual(client_in("open").tick(), [up(1, (8,), 0, 2)])
        self.assertEqual(client_in("ended").tick(), [])
        self.assertEqual(client_in("gone").tick(), [])

    def test_a_packet_for_each_segment_that_is_due(self):
        data = tuple(range(100, 140))
        client = Client(2)
        client.open_flow()
        client.write(1, data)
        client.close(1)
        self.assertEqual(client.tick(), [("open", FLOW)])
        client.receive(hello())
        self.assertEqual(client.tick(), [up(at, data[at:at + 8]) for at in (0, 8, 16, 24)])
        client.receive(down(0, (1,), 0, 30))
        self.assertEqual(client.tick(), [up(30, data[30:38], 0, 1), up(38, data[38:], 1, 1)])
        client.receive(down(1, (), 0, 41))
        self.assertEqual(client.tick(), [up(40, (), 1, 1)])

    def test_ascending_order_of_the_numbers(self):
        client = Client(2)
        for _ in range(12):
            client.open_flow()
        client.receive(hello(OTHER, (2, 11)))
        client.receive(hello(LIFE, (2, 2)))
        client.receive(hello(LIFE, (2, 5)))
        client.receive(gone(LIFE, (2, 5)))
        client.receive(hello(LIFE, (2, 7)))
        client.receive(down(0, (), 1, 0, LIFE, (2, 7)))
        client.write(11, tuple(range(9)))
        expected = []
        for number in range(1, 13):
            if number == 2:
                expected.append(up(0, (), 0, 0, LIFE, (2, 2)))
            elif number == 11:
                expected.append(up(0, tuple(range(8)), 0, 0, OTHER, (2, 11)))
                expected.append(up(8, (8,), 0, 0, OTHER, (2, 11)))
            elif number not in (5, 7):
                expected.append(("open", (2, number)))
        self.assertEqual(client.tick(), expected)

    def test_it_changes_nothing(self):
        for state in STATES:
            client = client_in(state)
            self.assertEqual(self.picture(client), self.picture(client))

    def test_lists_may_be_changed(self):
        for state in STATES:
            client = client_in(state)
            before = self.picture(client)
            client.tick().append(("open", FLOW))
            client.tick().clear()
            self.assertEqual(self.picture(client), before)
        client = client_in("open")
        client.receive(hello(OTHER)).clear()
        self.assertEqual(client.receive(hello(OTHER)), [no(OTHER)])
        client.receive(hello()).append(no())
        self.assertEqual(client.receive(hello()), [])
        client.receive(None).append(no())
        self.assertEqual(client.receive(None), [])


class WriteTest(ClientCase):
    def test_bytes_stand_behind_those_before(self):
        client = Client(2)
        client.open_flow()
        client.open_flow()
        for data in ((1, 2), (), (0, 255)):
            client.write(2, data)
        self.looks(client, 1, "opening", None, (), False, ())
        self.looks(client, 2, "opening", None, (1, 2, 0, 255), False, ())
        client.close(2)
        self.looks(client, 2, "opening", None, (1, 2, 0, 255), True, ())
        self.assertIs(client.is_closed(1), False)
        client.receive(hello(LIFE, (2, 2)))
        self.assertEqual(client.tick(), [("open", FLOW), up(0, (1, 2, 0, 255), 1, 0, LIFE, (2, 2))])

    def test_in_any_state(self):
        for state in ("opening", "open", "gone"):
            client = client_in(state)
            client.write(1, (9,))
            self.assertEqual(client.written(1), (7, 8, 9))
            client.close(1)
            self.assertIs(client.is_closed(1), True)
            self.assertEqual(client.state(1), state)
        self.assertEqual(client_in("ended").written(1), (7, 8))

    def test_bytes_that_are_written_are_still_there_when_they_are_known_to_be_taken(self):
        client = client_in("open")
        client.receive(down(2, (), 0, 2))
        client.write(1, (9,))
        self.assertEqual(client.written(1), (7, 8, 9))
        self.assertEqual(client.tick(), [up(2, (9,), 0, 2)])


class BadCallTest(ClientCase):
    def refuses(self, client, call, *parts):
        before = self.picture(client)
        count = client.count()
        with self.assertRaises(BadCall, msg=(call.__name__, parts)):
            call(client, *parts)
        self.assertEqual(self.picture(client), before)
        self.assertEqual(client.count(), count)

    def test_numbers_that_are_not_those_of_opened_flows(self):
        calls = (Client.close, Client.read, Client.written, Client.is_closed, Client.state, Client.life)
        for state in STATES:
            client = client_in(state)
            for number in [0, 2, 3, 1000000, -1, "1", (1,), [1], (2, 1)] + [v for v in STRANGE if v != 1 or v is True]:
                for call in calls:
                    self.refuses(client, call, number)
                self.refuses(client, Client.write, number, (1,))
                self.refuses(client, Client.write, number, None)

    def test_numbers_that_are_equal_to_one(self):
        client = client_in("open")
        for number in (True, 1.0, 1 + 0j):
            self.refuses(client, Client.state, number)
            self.refuses(client, Client.write, number, (1,))
            self.refuses(client, Client.close, number)

    def test_no_flows(self):
        for number in (0, 1, True, None, "1", (1,), -1):
            for call in (Client.close, Client.read, Client.written, Client.is_closed, Client.state, Client.life):
                self.refuses(Client(2), call, number)
            self.refuses(Client(2), Client.write, number, ())

    def test_the_number_of_the_last_flow(self):
        client = Client(2)
        for number in range(1, 5):
            self.refuses(client, Client.state, number)
            client.open_flow()
            self.assertEqual(client.state(number), "opening")

    def test_data_that_are_no_tuple_of_bytes(self):
        wrong = [[], [1, 2], (-1,), (1, 256), (True,), (1, False), ("1",), (1, None), ((1,),), (1.0,), "", "ab", b"ab",
                 None, 7, {}, {1: 1}, {1}, range(3), Plain()]
        for state in STATES:
            client = client_in(state)
            for data in wrong:
                self.refuses(client, Client.write, 1, data)

    def test_values_of_any_kind_as_data(self):
        client = client_in("open")
        for data in STRANGE:
            if not (type(data) is tuple and all(type(byte) is int and 0 <= byte <= 255 for byte in data)):
                self.refuses(client, Client.write, 1, data)

    def test_as_many_bytes_as_are_allowed(self):
        for pieces in ([4000], [3999, 1], [1, 3999], [2000, 2000], [4000, 0]):
            client = Client(2)
            client.open_flow()
            for many in pieces:
                client.write(1, (5,) * many)
            self.assertEqual(client.written(1), (5,) * 4000)
            self.refuses(client, Client.write, 1, (5,))
            self.refuses(client, Client.write, 1, (5,) * 4001)
            client.write(1, ())
            client.close(1)

    def test_too_many_bytes(self):
        client = Client(2)
        client.open_flow()
        client.open_flow()
        self.refuses(client, Client.write, 1, (5,) * 4001)
        client.write(1, (6,))
        self.refuses(client, Client.write, 1, (5,) * 4000)
        # The other flow has a stream of its own.
        client.write(2, (5,) * 4000)
        client.write(1, (5,) * 3999)
        self.refuses(client, Client.write, 1, (5,))

    def test_too_many_bytes_when_some_are_known_to_be_taken(self):
        client = Client(2)
        client.open_flow()
        client.receive(hello())
        client.write(1, (5,) * 4000)
        client.receive(down(0, (), 0, 32))
        self.refuses(client, Client.write, 1, (5,))

    def test_behind_close(self):
        for state in ("opening", "open", "gone"):
            client = client_in(state)
            client.close(1)
            for data in ((), (1,), [1], None):
                self.refuses(client, Client.write, 1, data)
            self.refuses(client, Client.close, 1)
        client = client_in("ended")
        self.refuses(client, Client.write, 1, (1,))
        self.refuses(client, Client.close, 1)


class Service:
    """The lives of a client's flows at the other side, packets on their way, and drawn numbers."""

    def __init__(self, seed, flows):
        self.choices = random.Random(seed)
        self.client = Client(3)
        self.lives = {}
        self.going_up = []
        self.going_down = []
        for _ in range(flows):
            number = self.client.open_flow()
            # A flow may have lives that were made for it by several agents.
            for agent in range(self.choices.randrange(1, 4)):
                life = (agent, 1, number)
                self.lives[(3, number), life] = Held((3, number), life)

    def tick(self):
        self.going_up.extend(self.client.tick())
        for key in sorted(self.lives):
            self.going_down.extend(self.lives[key].tick())

    def move(self):
        for key in sorted(self.lives):
            if self.choices.random() < 0.3:
                self.lives[key] = held_of(key[0], key[1], self.lives[key].picture())

    def lose_life(self):
        if self.lives:
            del self.lives[self.choices.choice(sorted(self.lives))]

    def take_down(self, packet):
        self.going_up.extend(self.client.receive(packet))

    def take_up(self, packet):
        flow = packet[1]
        if packet[0] == "open":
            for key in sorted(self.lives):
                if key[0] == flow:
                    self.going_down.extend(self.lives[key].take(packet))
        elif packet[0] == "no":
            self.lives.pop(packet[1:], None)
        elif packet[1:3] in self.lives:
            self.going_down.extend(self.lives[packet[1:3]].take(packet))
        else:
            self.going_down.append(("gone",) + packet[1:3])

    def drawn(self, packets):
        at = self.choices.randrange(len(packets))
        if self.choices.random() < 0.2:
            return packets[at]
        return packets.pop(at)

    def write(self):
        number = self.choices.randrange(1, self.client.count() + 1)
        if not self.client.is_closed(number):
            data = tuple(self.choices.randrange(256) for _ in range(self.choices.randrange(20)))
            self.client.write(number, data)

    def step(self):
        kind = self.choices.randrange(16)
        if kind == 0:
            self.tick()
        elif kind == 1:
            self.move()
        elif kind == 2:
            self.write()
        elif kind == 3 and self.choices.random() < 0.05:
            self.lose_life()
        elif kind == 4 and self.choices.random() < 0.1:
            number = self.choices.randrange(1, self.client.count() + 1)
            if not self.client.is_closed(number):
                self.client.close(number)
        elif kind == 5 and self.going_up:
            self.drawn(self.going_up)
        elif kind == 6 and self.going_down:
            self.drawn(self.going_down)
        elif kind % 2 == 0 and self.going_up:
            self.take_up(self.drawn(self.going_up))
        elif self.going_down:
            self.take_down(self.drawn(self.going_down))

    def round(self):
        """All packets arrive, in their order, and both sides are told a tick."""
        going_up, self.going_up = self.going_up, []
        going_down, self.going_down = self.going_down, []
        for packet in going_up:
            self.take_up(packet)
        for packet in going_down:
            self.take_down(packet)
        self.tick()


class StreamsTest(ClientCase):
    def check(self, service, before):
        client = service.client
        for number in range(1, client.count() + 1):
            state, life = client.state(number), client.life(number)
            answers = answers_to((3, number), client.written(number))
            read = client.read(number)
            self.assertEqual(read, answers[:len(read)])
            old_state, old_life, old_read = before.get(number, ("opening", None, ()))
            self.assertGreaterEqual(STATES.index(state), STATES.index(old_state))
            self.assertFalse((old_state, state) == ("ended", "gone"))
            self.assertIn(old_life, (None, life))
            self.assertEqual(read[:len(old_read)], old_read)
            if state == "opening":
                self.assertEqual((life, read), (None, ()))
            if state == "ended":
                self.assertEqual((client.is_closed(number), read), (True, answers))
            if state == "gone":
                self.assertNotIn(((3, number), life), service.lives)
            before[number] = (state, life, read)

    def test_drawn_orders(self):
        ends = {"ended": 0, "gone": 0}
        for seed in range(120):
            service = Service(seed, 1 + seed % 3)
            before = {}
            for _ in range(service.choices.randrange(400)):
                service.step()
                self.check(service, before)
            client = service.client
            for number in range(1, client.count() + 1):
                if not client.is_closed(number):
                    client.close(number)
            for _ in range(120):
                service.round()
                self.check(service, before)
            for number in range(1, client.count() + 1):
                if client.state(number) != "opening":
                    ends[client.state(number)] += 1
                else:
                    # All lives of this flow were lost before it was told of one.
                    self.assertNotIn((3, number), [flow for flow, _ in service.lives])
            self.assertEqual(service.lives, {})
        self.assertGreater(min(ends.values()), 10)

    def test_a_life_that_was_lost_already(self):
        client = Client(2)
        client.open_flow()
        client.receive(hello())
        client.write(1, (1,))
        self.assertEqual(client.tick(), [up(0, (1,))])
        client.receive(gone())
        self.looks(client, 1, "gone", LIFE, (1,), False, ())


class PlaceTest(unittest.TestCase):
    def test_names_are_defined_in_their_file(self):
        self.assertEqual(Client.__module__, "heldflows.clients")
        for name in (
                "open_flow", "write", "close", "read", "written", "is_closed", "state", "life", "count", "receive",
                "tick"):
            self.assertIn(name, vars(Client))


if __name__ == "__main__":
    unittest.main()
