"""Points 618, 6 and 7: several agents, clients, muxes and a controller, with messages lost, doubled and late."""

import random
import unittest

from hubs import Hub, Watch, rounds_until_done, whatever_is_missing

MOST_TICKS = 70
# More letters than these are lost, so that a run does not grow without end.
MOST_LETTERS = 300


class Player:
    """Does drawn steps to a hub, and looks at it behind each of them."""

    def __init__(self, seed):
        self.choices = random.Random(seed)
        draw = self.choices.choice
        self.hub = Hub(self.choices.randint(1, 6), self.choices.randint(1, 6), self.choices.randint(1, 3))
        self.watch = Watch(self.hub)
        self.weights = {
            self.open_flow: draw([0.3, 2]), self.write: 2, self.close: draw([0.1, 0.6]), self.client: 3, self.agent: 5,
            self.controller: 3, self.deliver: draw([10, 30, 80]), self.lose: draw([0, 1, 6]),
            self.double: draw([0, 1, 4]), self.stop: draw([0, 0.1, 0.6]), self.start: draw([0.2, 1]), self.forget: 0.1,
            self.route: 0.3, self.wish: draw([0, 0.1, 0.6]), self.hub.go_round: draw([0, 1, 6]),
        }
        # The share of the letters that are delivered in the order in which they were sent.
        self.first = draw([0, 0.5, 0.9, 1])

    def play(self, steps):
        calls = list(self.weights)
        for call in self.choices.choices(calls, list(self.weights.values()), k=steps):
            call()
            while len(self.hub.letters) > MOST_LETTERS:
                self.lose()
            self.watch.look()

    def warm_up(self):
        """Lets all clients open their flows, and all agents get buckets, so that more than a beginning is seen."""
        for client in self.hub.clients:
            for _ in range(self.choices.randint(1, 3)):
                client.open_flow()
        for _ in range(self.choices.randrange(12)):
            self.hub.go_round()
            self.watch.look()

    def calm_down(self):
        """Tells rounds in a timely world until nothing is missing, at most 70; returns what is still missing."""
        for agent in range(len(self.hub.agents)):
            self.hub.start(agent)
        for _ in range(MOST_TICKS):
            if whatever_is_missing(self.hub) is None:
                return None
            self.hub.go_round()
            self.watch.look()
        return whatever_is_missing(self.hub)

    def place(self):
        if self.choices.random() < self.first:
            return 0
        return self.choices.randrange(len(self.hub.letters))

    def number_of(self, some):
        return self.choices.randrange(len(some))

    def open_flow(self):
        client = self.choices.choice(self.hub.clients)
        if client.count() < 3:
            client.open_flow()

    def write(self):
        client = self.choices.choice(self.hub.clients)
        data = tuple(self.choices.randrange(256) for _ in range(self.choices.randint(0, 20)))
        for flow in range(1, client.count() + 1):
            if not client.is_closed(flow) and len(client.written(flow)) + len(data) <= 60:
                client.write(flow, data)

    def close(self):
        client = self.choices.choice(self.hub.clients)
        for flow in range(1, client.count() + 1):
            if not client.is_closed(flow) and self.choices.random() < 0.5:
                client.close(flow)

    def client(self):
        self.hub.tick_client(self.number_of(self.hub.clients))

    def agent(self):
        self.hub.tick_agent(self.number_of(self.hub.agents))

    def controller(self):
        self.hub.tick_controller()

    def deliver(self):
        if self.hub.letters:
            self.hub.deliver(self.place())

    def lose(self):
        if self.hub.letters:
            del self.hub.letters[self.choices.randrange(len(self.hub.letters))]

    def double(self):
        if self.hub.letters:
            self.hub.letters.append(self.choices.choice(self.hub.letters))

    def stop(self):
        self.hub.stop(self.number_of(self.hub.agents))

    def start(self):
        self.hub.start(self.number_of(self.hub.agents))

    def forget(self):
        self.choices.choice(self.hub.muxes).forget()

    def route(self):
        self.hub.routes[self.number_of(self.hub.clients)] = self.number_of(self.hub.muxes)

    def wish(self):
        self.hub.controller.wish(self.number_of(self.hub.agents), self.choices.choice(["serve", "drain"]))


class DrawnTest(unittest.TestCase):
    def test_what_always_holds_and_what_goes_on(self):
        moved = gone = ended = 0
        for seed in range(120):
            with self.subTest(seed=seed):
                player = Player(seed)
                if player.choices.random() < 0.7:
                    player.warm_up()
                for _ in range(2):
                    player.play(player.choices.choice([60, 250, 500]))
                    self.assertIsNone(player.calm_down())
                moved += sum(len(births) > 1 for births in player.watch.births.values())
                states = [client.state(flow) for client in player.hub.clients for flow in range(1, client.count() + 1)]
                gone += states.count("gone")
                ended += states.count("ended")
        # Otherwise the runs would show too little.
        self.assertGreater(min(moved, gone, ended), 50)

    def test_nothing_is_lost_as_long_as_no_agent_stops(self):
        for seed in range(40):
            with self.subTest(seed=seed):
                player = Player(1000 + seed)
                player.weights[player.stop] = 0
                player.play(200)
                self.assertLessEqual(rounds_until_done(player.hub, MOST_TICKS), MOST_TICKS)
                for client in player.hub.clients:
                    for flow in range(1, client.count() + 1):
                        self.assertEqual(client.state(flow), "ended" if client.is_closed(flow) else "open")


class TimelyTest(unittest.TestCase):
    def hub_with_flows(self, clients, agents, muxes=1, data=(), closed=False):
        hub = Hub(clients, agents, muxes)
        for client in hub.clients:
            for flow in (1, 2, 3):
                client.open_flow()
                client.write(flow, data)
                if closed:
                    client.close(flow)
        return hub

    def test_a_new_service(self):
        for clients, agents, muxes in ((1, 1, 1), (6, 6, 3), (3, 2, 2), (6, 1, 3)):
            for data in ((), (7,), tuple(range(60))):
                for closed in (False, True):
                    hub = self.hub_with_flows(clients, agents, muxes, data, closed)
                    self.assertLessEqual(rounds_until_done(hub, MOST_TICKS), MOST_TICKS)

    def test_an_agent_is_drained(self):
        hub = self.hub_with_flows(6, 3, 2, tuple(range(40)))
        watch = Watch(hub)
        for _ in range(30):
            hub.go_round()
            watch.look()
        self.assertNotEqual(hub.agents[1].creates(), [])
        self.assertNotEqual(hub.agents[1].lives(), [])
        hub.controller.wish(1, "drain")
        for _ in range(40):
            hub.go_round()
            watch.look()
        self.assertEqual((hub.agents[1].creates(), hub.agents[1].lives(), hub.agents[1].frozen()), ([], [], []))
        self.assertIsNone(whatever_is_missing(hub))
        # All flows live on.
        self.assertEqual(sum(len(agent.lives()) for agent in hub.agents), 18)
        for client in hub.clients:
            self.assertEqual([client.state(flow) for flow in (1, 2, 3)], ["open"] * 3)
            for flow in (1, 2, 3):
                client.write(flow, tuple(range(20)))
        self.assertLessEqual(rounds_until_done(hub, 20), 20)

    def test_the_load_is_spread_when_an_agent_comes_back(self):
        hub = Hub(6, 2, 1)
        hub.stop(1)
        for client in hub.clients:
            for _ in range(3):
                client.open_flow()
        watch = Watch(hub)
        for _ in range(20):
            hub.go_round()
            watch.look()
        self.assertEqual(len(hub.agents[0].creates()), 16)
        hub.start(1)
        for _ in range(40):
            hub.go_round()
            watch.look()
        self.assertEqual(len(hub.agents[0].creates()), 8)
        numbers = [len(agent.lives()) for agent in hub.agents]
        self.assertEqual(sum(numbers), 18)
        self.assertLess(max(numbers) - min(numbers), 4)
        self.assertIsNone(whatever_is_missing(hub))

    def test_an_agent_stops_and_starts(self):
        hub = self.hub_with_flows(4, 3, 2, tuple(range(30)))
        watch = Watch(hub)
        for _ in range(20):
            hub.go_round()
            watch.look()
        lost = [(flow, life) for flow, life, _ in hub.agents[2].lives()]
        self.assertNotEqual(lost, [])
        hub.stop(2)
        hub.start(2)
        for _ in range(MOST_TICKS):
            hub.go_round()
            watch.look()
        self.assertIsNone(whatever_is_missing(hub))
        for number, client in enumerate(hub.clients):
            for flow in (1, 2, 3):
                is_lost = ((number, flow), client.life(flow)) in lost
                self.assertEqual(client.state(flow), "gone" if is_lost else "open")

    def test_muxes_forget_their_tables(self):
        hub = self.hub_with_flows(6, 3, 3)
        for _ in range(10):
            hub.go_round()
        for mux in hub.muxes:
            mux.forget()
        for client in hub.clients:
            client.write(1, (1, 2, 3))
        self.assertLessEqual(rounds_until_done(hub, MOST_TICKS), MOST_TICKS)


if __name__ == "__main__":
    unittest.main()
