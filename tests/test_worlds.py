"""Points 800 and 802 to 805: worlds."""

import random
import unittest

from heldflows.wire import read, write
from heldflows.worlds import World
from hubs import Hub

CONTROLLER = ("controller",)
BORN = [(CONTROLLER, ("born", (agent, 1))) for agent in range(6)]
NONE_HELD = [(CONTROLLER, ("held", (agent, 1), 0)) for agent in range(6)]


def world_with(size, *events):
    world = World(*size)
    for event in events:
        world.do(event)
    return world


def letters(world):
    """Returns the pairs of addresses and messages of all letters, none of which is spoilt."""
    return [(address, read(row)) for address, row in [world.letter(place) for place in range(world.count())]]


def rows_of_bytes(world):
    return [world.letter(place) for place in range(world.count())]


def tables(world, muxes):
    return [world.rows(mux) for mux in range(muxes)]


class NewTest(unittest.TestCase):
    def test_a_new_world(self):
        for clients in range(1, 7):
            for agents in range(1, 7):
                for muxes in range(1, 4):
                    world = World(clients, agents, muxes)
                    running = tuple(((agent, 1), (), (), ()) for agent in range(agents))
                    self.assertEqual(world.picture(), (0, ((),) * clients, running))
                    self.assertEqual(world.count(), 0)
                    self.assertEqual(tables(world, muxes), [()] * muxes)

    def test_worlds_share_nothing(self):
        first, second = World(1, 1, 1), World(1, 1, 1)
        first.do(("open", 0))
        first.do(("round",))
        self.assertEqual((second.picture(), second.count()), ((0, ((),), (((0, 1), (), (), ()),)), 0))

    def test_the_first_routes(self):
        for muxes in (1, 2, 3):
            events = [("open", client) for client in range(6)] + [("client", client) for client in range(6)]
            world = world_with((6, 1, muxes), *events)
            self.assertEqual(letters(world), [
                (("mux", client % muxes), ("open", (client, 1))) for client in range(6)])


class TimeTest(unittest.TestCase):
    def test_it_counts_all_events(self):
        world = World(1, 2, 1)
        events = [
            ("deliver", 5), ("lose", 0), ("double", 9), ("spoil", 1, 2, 3), ("start", 0), ("open", 0), ("write", 0, 9, (1,)),
            ("close", 0, 9), ("stop", 1), ("stop", 1), ("agent", 1), ("client", 0), ("controller",), ("forget", 0),
            ("route", 0, 0), ("wish", 1, "drain"), ("round",), ("round",)]
        for time, event in enumerate(events):
            self.assertEqual(world.picture()[0], time)
            self.assertIsNone(world.do(event))
        self.assertEqual(world.picture()[0], len(events))

    def test_a_picture_changes_nothing(self):
        world = world_with((2, 2, 1), ("open", 0), ("write", 0, 1, (1, 2)), *[("round",)] * 8)
        self.assertEqual(world.picture(), world.picture())


class FlowsTest(unittest.TestCase):
    def flows(self, *events):
        return world_with((2, 1, 1), *events).picture()[1]

    def test_open(self):
        self.assertEqual(self.flows(("open", 1)), ((), ((1, None, (), 0, (), "opening"),)))
        opened = tuple((number, None, (), 0, (), "opening") for number in (1, 2, 3))
        self.assertEqual(self.flows(*[("open", 0)] * 3), (opened, ()))

    def test_write(self):
        events = [("open", 0), ("open", 0), ("write", 0, 2, (7, 8)), ("write", 0, 2, ()), ("write", 0, 2, (9,))]
        self.assertEqual(self.flows(*events)[0], (
            (1, None, (), 0, (), "opening"), (2, None, (7, 8, 9), 0, (), "opening")))

    def test_close(self):
        events = [("open", 0), ("open", 0), ("close", 0, 1)]
        self.assertEqual(self.flows(*events)[0], (
            (1, None, (), 1, (), "opening"), (2, None, (), 0, (), "opening")))

    def test_what_the_client_does_not_allow(self):
        before = [("open", 0), ("write", 0, 1, (7,) * 3990), ("open", 0), ("close", 0, 2)]
        world = world_with((2, 1, 1), *before)
        time, clients, agents = world.picture()
        events = [
            ("write", 0, 1, (1,) * 11), ("write", 0, 2, (1,)), ("write", 0, 2, ()), ("write", 0, 3, (1,)),
            ("write", 1, 1, (1,)), ("write", 0, 1, (256,)), ("write", 0, 0, (1,)), ("close", 0, 2), ("close", 0, 3),
            ("close", 1, 1), ("close", 0, 9999)]
        for event in events:
            world.do(event)
        self.assertEqual(world.picture(), (time + len(events), clients, agents))
        world.do(("write", 0, 1, (1,) * 10))
        self.assertEqual(len(world.picture()[1][0][0][2]), 4000)

    def test_nothing_is_sent_at_once(self):
        events = [("open", 0), ("write", 0, 1, (1,)), ("close", 0, 1)]
        self.assertEqual(world_with((1, 1, 1), *events).count(), 0)
        world = world_with((1, 1, 1), *[("round",)] * 12)
        before = rows_of_bytes(world)
        for event in events:
            world.do(event)
        self.assertEqual(rows_of_bytes(world), before)


class TicksTest(unittest.TestCase):
    def test_a_client(self):
        world = world_with((3, 1, 2), ("open", 1), ("open", 1), ("open", 2), ("client", 1))
        expected = [(("mux", 1), ("open", (1, 1))), (("mux", 1), ("open", (1, 2)))]
        self.assertEqual(letters(world), expected)
        world.do(("client", 0))
        self.assertEqual(letters(world), expected)
        world.do(("client", 2))
        self.assertEqual(letters(world), expected + [(("mux", 0), ("open", (2, 1)))])

    def test_an_agent(self):
        world = world_with((1, 3, 1), ("agent", 2), ("agent", 0))
        self.assertEqual(letters(world), [BORN[2], NONE_HELD[2], BORN[0], NONE_HELD[0]])

    def test_an_agent_that_does_not_run(self):
        world = world_with((1, 3, 1), ("stop", 2), ("agent", 2))
        self.assertEqual(world.count(), 0)

    def test_the_controller(self):
        world = world_with((1, 2, 1), ("agent", 1), ("deliver", 0), ("lose", 0), ("lose", 0), ("controller",))
        self.assertEqual(letters(world), [
            (("agent", 1), ("stop", bucket, 1, ((1, 1),))) for bucket in range(16)])
        self.assertEqual(world_with((1, 2, 1), ("controller",)).count(), 0)


class LettersTest(unittest.TestCase):
    # Three agents have told a tick: six letters.
    EVENTS = [("agent", agent) for agent in range(3)]
    SENT = [BORN[0], NONE_HELD[0], BORN[1], NONE_HELD[1], BORN[2], NONE_HELD[2]]

    def test_without_letters(self):
        for events in ([], [("agent", 0), ("lose", 0), ("lose", 0)]):
            for event in (("deliver", 0), ("lose", 3), ("double", 1), ("spoil", 0, 5, 1)):
                world = world_with((1, 3, 1), *events, event)
                self.assertEqual(world.count(), 0)
                self.assertEqual(world.picture()[0], len(events) + 1)

    def test_lose(self):
        for place in list(range(14)) + [9999, 10 ** 9]:
            world = world_with((1, 3, 1), *self.EVENTS, ("lose", place))
            at = place % 6
            self.assertEqual(letters(world), self.SENT[:at] + self.SENT[at + 1:])

    def test_double(self):
        for place in list(range(14)) + [9999]:
            world = world_with((1, 3, 1), *self.EVENTS, ("double", place))
            self.assertEqual(letters(world), self.SENT + [self.SENT[place % 6]])

    def test_deliver(self):
        for place in (0, 2, 4, 6, 8, 10, 9996):
            world = world_with((1, 3, 1), *self.EVENTS, ("deliver", place))
            at = place % 6
            agent = at // 2
            answer = (("agent", agent), ("births", ((agent, 1),)))
            self.assertEqual(letters(world), self.SENT[:at] + self.SENT[at + 1:] + [answer])
        for place in (1, 7, 9997):
            world = world_with((1, 3, 1), *self.EVENTS, ("deliver", place))
            self.assertEqual(letters(world), self.SENT[:1] + self.SENT[2:])

    def test_spoil(self):
        for place in (0, 3, 5, 6, 9, 9999):
            for at in (0, 1, 13, 100, 9999):
                for by in (1, 128, 255):
                    world = world_with((1, 3, 1), *self.EVENTS, ("spoil", place, at, by))
                    expected = [(address, write(message)) for address, message in self.SENT]
                    address, row = expected[place % 6]
                    spot = at % len(row)
                    row = row[:spot] + ((row[spot] + by) % 256,) + row[spot + 1:]
                    expected[place % 6] = (address, row)
                    self.assertEqual(rows_of_bytes(world), expected)
                    # It is not changed again, nor is its double.
                    for event in (("spoil", place, at, 256 - by), ("spoil", place, at + 1, 7)):
                        world.do(event)
                        self.assertEqual(rows_of_bytes(world), expected)
                    world.do(("double", place))
                    expected.append((address, row))
                    world.do(("spoil", 6, at, 256 - by))
                    self.assertEqual(rows_of_bytes(world), expected)

    def test_letters_whose_bytes_cannot_be_read(self):
        for place in range(6):
            world = world_with((1, 3, 1), *self.EVENTS, ("spoil", place, 7 * place, 9), ("deliver", place))
            self.assertEqual(letters(world), self.SENT[:place] + self.SENT[place + 1:])
            world.do(("controller",))
            self.assertEqual(world.count(), 5)

    def test_a_letter_to_an_agent_that_does_not_run(self):
        events = [("agent", 1), ("deliver", 0), ("lose", 0)]
        world = world_with((1, 3, 1), *events, ("stop", 1), ("deliver", 0), ("start", 1), ("agent", 1))
        self.assertEqual(letters(world), [(CONTROLLER, ("born", (1, 2))), (CONTROLLER, ("held", (1, 2), 0))])
        # A letter that is under way meanwhile is received by the next birth.
        world = world_with((1, 3, 1), *events, ("stop", 1), ("start", 1), ("deliver", 0), ("agent", 1))
        self.assertEqual(letters(world)[0], (CONTROLLER, ("born", (1, 2))))


class ReceiversTest(unittest.TestCase):
    def test_a_packet_goes_to_the_agent_and_the_answer_to_the_client(self):
        world = world_with((1, 1, 1), *[("round",)] * 9)
        while world.count():
            world.do(("lose", 0))
        self.assertEqual(len(world.rows(0)), 16)
        world.do(("open", 0))
        world.do(("client", 0))
        for sent in (
                (("mux", 0), ("open", (0, 1))), (("agent", 0), ("wrap", 5, 8, ("open", (0, 1)))),
                (("client", 0), ("hello", (0, 1), (0, 1, 1)))):
            self.assertEqual(letters(world), [sent])
            world.do(("deliver", 0))
        self.assertEqual(world.count(), 0)
        self.assertEqual(world.picture()[1], (((1, (0, 1, 1), (), 0, (), "open"),),))
        self.assertEqual(world.picture()[2], (
            ((0, 1), (((0, 1), (0, 1, 1), 0, ()),), (), tuple(range(16))),))

    def test_a_client_answers_through_its_mux(self):
        world = world_with((1, 1, 3), *[("round",)] * 9, ("open", 0), ("close", 0, 1))
        while world.picture()[1][0][0][5] != "ended":
            world.do(("round",))
        # The agent was not told yet that the flow has ended.
        place = [address for address, _ in letters(world)].index(("client", 0))
        for mux in (2, 1):
            world.do(("route", 0, mux))
            world.do(("double", place))
            world.do(("deliver", world.count() - 1))
            self.assertEqual(letters(world)[-1], (("mux", mux), ("no", (0, 1), (0, 1, 1))))

    def test_the_table_of_a_mux(self):
        world = world_with((1, 2, 2), *[("round",)] * 8)
        self.assertEqual(len(world.rows(0)), 16)
        self.assertEqual(world.rows(0), world.rows(1))
        self.assertEqual({birth for _, _, birth in world.rows(0)}, {(0, 1), (1, 1)})
        before = world.rows(0)
        world.do(("forget", 1))
        self.assertEqual(tables(world, 2), [before, ()])
        world.do(("round",))
        self.assertEqual(tables(world, 2), [before, before])


class AgentsTest(unittest.TestCase):
    def births(self, world):
        return [row[0] for row in world.picture()[2]]

    def test_stop_and_start(self):
        world = World(1, 3, 1)
        for event, births in (
                (("stop", 1), [(0, 1), (2, 1)]), (("stop", 1), [(0, 1), (2, 1)]), (("start", 0), [(0, 1), (2, 1)]),
                (("start", 1), [(0, 1), (1, 2), (2, 1)]), (("start", 1), [(0, 1), (1, 2), (2, 1)]),
                (("stop", 1), [(0, 1), (2, 1)]), (("stop", 0), [(2, 1)]), (("stop", 2), []), (("stop", 2), []),
                (("start", 1), [(1, 3)]), (("start", 2), [(1, 3), (2, 2)]), (("start", 0), [(0, 2), (1, 3), (2, 2)])):
            world.do(event)
            self.assertEqual(self.births(world), births)

    def test_what_it_held_is_lost(self):
        world = world_with((1, 1, 1), *[("round",)] * 6, ("open", 0), *[("round",)] * 5)
        self.assertEqual(len(world.picture()[2][0][1]), 1)
        count = world.count()
        world.do(("stop", 0))
        world.do(("start", 0))
        self.assertEqual(world.picture()[2], (((0, 2), (), (), ()),))
        # The letters stay.
        self.assertEqual(world.count(), count)

    def test_nothing_happens_to_one_that_runs(self):
        world = world_with((1, 1, 1), *[("round",)] * 6)
        before = world.picture()[1:]
        world.do(("start", 0))
        self.assertEqual(world.picture()[1:], before)


class OthersTest(unittest.TestCase):
    def test_route(self):
        world = world_with((2, 1, 3), ("open", 0), ("open", 1), ("route", 0, 2), ("client", 0), ("client", 1))
        self.assertEqual([address for address, _ in letters(world)], [("mux", 2), ("mux", 1)])
        world.do(("route", 0, 0))
        world.do(("client", 0))
        self.assertEqual([address for address, _ in letters(world)], [("mux", 2), ("mux", 1), ("mux", 0)])

    def test_wish(self):
        world = world_with((1, 2, 1), *[("round",)] * 10)
        self.assertEqual([len(row[3]) for row in world.picture()[2]], [8, 8])
        for agent, numbers in ((1, [16, 0]), (0, [16, 0])):
            world.do(("wish", agent, "drain"))
            for _ in range(20):
                world.do(("round",))
            self.assertEqual([len(row[3]) for row in world.picture()[2]], numbers)
        world.do(("wish", 1, "serve"))
        for _ in range(20):
            world.do(("round",))
        self.assertEqual([len(row[3]) for row in world.picture()[2]], [0, 16])


class RoundTest(unittest.TestCase):
    def test_a_round_of_a_new_world(self):
        world = world_with((2, 3, 1), ("open", 1), ("open", 0), ("round",))
        expected = [(("mux", 0), ("open", (0, 1))), (("mux", 0), ("open", (1, 1)))]
        for agent in range(3):
            expected += [BORN[agent], NONE_HELD[agent]]
        self.assertEqual(letters(world), expected)

    def test_the_letters_are_received_in_their_order(self):
        world = world_with((1, 3, 1), ("agent", 2), ("agent", 0), ("round",))
        births = [(("agent", 2), ("births", ((2, 1),))), (("agent", 0), ("births", ((0, 1), (2, 1))))]
        ticks = []
        for agent in range(3):
            ticks += [BORN[agent], NONE_HELD[agent]]
        stops = [(("agent", 2), ("stop", bucket, 1, ((2, 1),))) for bucket in range(16)]
        self.assertEqual(letters(world), births + ticks + stops)

    def test_what_is_sent_meanwhile_is_not_received(self):
        # The letter goes one step at each round.
        world = world_with((1, 1, 1), *[("round",)] * 9)
        while world.count():
            world.do(("lose", 0))
        world.do(("open", 0))
        for word in ("open", "wrap", "hello"):
            world.do(("round",))
            self.assertIn(word, [message[0] for _, message in letters(world)])
            self.assertEqual(world.picture()[1][0][0][5], "opening")
        world.do(("round",))
        self.assertEqual(world.picture()[1][0][0][5], "open")

    def test_agents_that_do_not_run(self):
        world = world_with((1, 3, 1), ("stop", 1), ("round",))
        self.assertEqual(letters(world), [BORN[0], NONE_HELD[0], BORN[2], NONE_HELD[2]])

    def test_spoilt_letters_are_removed(self):
        world = world_with((1, 2, 1), ("agent", 1), ("spoil", 0, 3, 1), ("stop", 0), ("stop", 1), ("round",))
        self.assertEqual(world.count(), 0)

    def test_a_round_is_what_its_parts_are(self):
        for seed in range(10):
            choices = random.Random(seed)
            first, second = World(3, 3, 2), World(3, 3, 2)
            for _ in range(25):
                event = choices.choice([
                    ("open", choices.randrange(3)), ("write", choices.randrange(3), 1, (5, 6, 7)), ("close", 1, 1),
                    ("double", choices.randrange(99)), ("spoil", choices.randrange(99), choices.randrange(99), 3),
                    ("stop", choices.randrange(3)), ("start", choices.randrange(3)), ("forget", 1)])
                first.do(event)
                second.do(event)
                first.do(("round",))
                for _ in range(second.count()):
                    second.do(("deliver", 0))
                for client in range(3):
                    second.do(("client", client))
                for agent in range(3):
                    second.do(("agent", agent))
                second.do(("controller",))
                self.assertEqual(rows_of_bytes(first), rows_of_bytes(second))
                self.assertEqual(first.picture()[1:], second.picture()[1:])
                self.assertEqual(tables(first, 2), tables(second, 2))


class PictureTest(unittest.TestCase):
    def test_what_is_frozen(self):
        events = [("open", client) for client in range(6)]
        world = world_with((6, 2, 1), *[("round",)] * 6, *events, ("write", 0, 1, (1, 2)), *[("round",)] * 8)
        before = sorted(row[:2] for _, held, _, _ in world.picture()[2] for row in held)
        self.assertEqual(len(before), 6)
        world.do(("wish", 0, "drain"))
        frozen = []
        for _ in range(12):
            world.do(("round",))
            frozen = world.picture()[2][0][2]
            if frozen:
                break
        rows = [row[:2] for row in frozen]
        self.assertEqual(rows, sorted(rows))
        self.assertGreater(len(frozen), 0)
        self.assertEqual({row[2] for row in frozen}, {1})
        self.assertEqual([row[3] for row in frozen], [(1, 2) if row[0] == (0, 1) else () for row in frozen])

    def test_kinds_of_values(self):
        world = world_with((1, 1, 1), *[("round",)] * 6, ("open", 0), ("write", 0, 1, (1,)), *[("round",)] * 9)
        time, clients, agents = world.picture()
        self.assertIs(type(time), int)
        flow = clients[0][0]
        row = agents[0]
        for value in (clients, clients[0], flow, flow[1], flow[2], flow[4], agents, row, row[0], row[1], row[1][0],
                      row[1][0][3], row[2], row[3], world.rows(0), world.letter(0), world.letter(0)[1]):
            self.assertIs(type(value), tuple)
        self.assertIs(type(flow[3]), int)
        self.assertIs(type(flow[5]), str)
        world.do(("close", 0, 1))
        self.assertIs(type(world.picture()[1][0][0][3]), int)


class HubTest(unittest.TestCase):
    """A world does what its parts do if they are told the same, with bytes in between."""

    def test_drawn_events(self):
        for seed in range(8):
            choices = random.Random(seed)
            clients, agents, muxes = choices.randint(1, 4), choices.randint(1, 4), choices.randint(1, 3)
            world, hub = World(clients, agents, muxes), Hub(clients, agents, muxes)
            for step in range(120):
                client, agent, mux = choices.randrange(clients), choices.randrange(agents), choices.randrange(muxes)
                place = choices.randrange(1000)
                at = place % max(1, world.count())
                event, call, parts = choices.choice([
                    (("client", client), hub.tick_client, (client,)), (("agent", agent), hub.tick_agent, (agent,)),
                    (("controller",), hub.tick_controller, ()), (("round",), hub.go_round, ()),
                    (("stop", agent), hub.stop, (agent,)), (("start", agent), hub.start, (agent,)),
                    (("start", agent), hub.start, (agent,)), (("deliver", place), hub.deliver, (at,)),
                    (("lose", place), hub.letters.pop, (at,)), (("forget", mux), hub.muxes[mux].forget, ()),
                    (("open", client), hub.clients[client].open_flow, ())])
                world.do(event)
                if event[0] not in ("deliver", "lose") or hub.letters:
                    call(*parts)
                self.assertEqual(letters(world), hub.letters, (seed, step, event))
                self.assertEqual([world.rows(number) for number in range(muxes)], [other.rows() for other in hub.muxes])
                held = [(row[0],) + row[1:3] for row in world.picture()[2]]
                self.assertEqual(held, [(other.birth(),) + other.flows() for other in hub.running()])


class PlaceTest(unittest.TestCase):
    def test_names_are_defined_in_their_file(self):
        self.assertEqual(World.__module__, "heldflows.worlds")
        for name in ("do", "picture", "count", "letter", "rows"):
            self.assertIn(name, vars(World))


if __name__ == "__main__":
    unittest.main()
