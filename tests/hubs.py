"""All parts together without a net: messages are kept in a list, and lost, doubled and delivered at will.

It also tells what points 4 to 7 and 618 promise of clients, agents and muxes, whoever tells them ticks and messages.
"""

from answers import answers_to
from heldflows.agent import Agent
from heldflows.clients import Client
from heldflows.controller import Controller
from heldflows.muxes import Mux


class Hub:
    """Clients, agents, muxes and a controller, with the messages that are under way."""

    def __init__(self, clients, agents, muxes):
        self.clients = [Client(client) for client in range(clients)]
        self.agents = [Agent(agent, 1) for agent in range(agents)]
        self.births = [1] * agents
        self.muxes = [Mux(mux) for mux in range(muxes)]
        self.controller = Controller(muxes)
        self.routes = [client % muxes for client in range(clients)]
        self.letters = []

    def running(self):
        return [agent for agent in self.agents if agent is not None]

    def stop(self, agent):
        self.agents[agent] = None

    def start(self, agent):
        if self.agents[agent] is None:
            self.births[agent] += 1
            self.agents[agent] = Agent(agent, self.births[agent])

    def tick_client(self, client):
        self.send_packets(client, self.clients[client].tick())

    def tick_agent(self, agent):
        if self.agents[agent] is not None:
            self.letters += self.agents[agent].tick()

    def tick_controller(self):
        self.letters += self.controller.tick()

    def deliver(self, place):
        address, message = self.letters.pop(place)
        if address[0] == "client":
            self.send_packets(address[1], self.clients[address[1]].receive(message))
        elif address[0] == "mux":
            self.letters += self.muxes[address[1]].receive(message)
        elif address[0] == "controller":
            self.letters += self.controller.receive(message)
        elif self.agents[address[1]] is not None:
            self.letters += self.agents[address[1]].receive(message)

    def send_packets(self, client, packets):
        self.letters += [(("mux", self.routes[client]), packet) for packet in packets]

    def go_round(self):
        for _ in range(len(self.letters)):
            self.deliver(0)
        for client in range(len(self.clients)):
            self.tick_client(client)
        for agent in range(len(self.agents)):
            self.tick_agent(agent)
        self.tick_controller()


class Watch:
    """Looks at a hub behind each step, and raises AssertionError if it does not keep its promises."""

    def __init__(self, hub):
        self.hub = hub
        # The births at which each life was, or to which it was handed.
        self.births = {}
        self.lost = {}

    def look(self):
        creators = {}
        held = {}
        flows = {}
        for agent in self.hub.running():
            for bucket, _ in agent.creates():
                assert bucket not in creators, ("creators", bucket)
                creators[bucket] = agent.birth()
            for flow, life, epoch in agent.lives():
                assert (flow, life) not in held, ("holders", flow, life)
                assert flow not in flows, ("lives", flow)
                held[(flow, life)] = epoch
                flows[flow] = life
                self.births.setdefault((flow, life), set()).add(agent.birth())
        for agent in self.hub.running():
            for flow, life, epoch, receiver in agent.frozen():
                assert epoch <= held.get((flow, life), epoch), ("frozen", flow, life)
                self.births.setdefault((flow, life), set()).update((agent.birth(), receiver))
            self.look_at_eaten(agent)
        for number, client in enumerate(self.hub.clients):
            for flow in range(1, client.count() + 1):
                self.look_at_flow(number, client, flow, held)

    def look_at_eaten(self, agent):
        for flow, life, _, eaten in agent.flows()[0] + agent.flows()[1]:
            written = self.hub.clients[flow[0]].written(flow[1])
            assert written[:len(eaten)] == eaten, ("eaten", flow)
            assert agent.eaten_of(flow, life) == eaten

    def look_at_flow(self, number, client, flow, held):
        name = (number, flow)
        answers = answers_to(name, client.written(flow))
        read = client.read(flow)
        assert answers[:len(read)] == read, ("stream", name)
        state = client.state(flow)
        life = client.life(flow)
        if state == "ended":
            assert client.is_closed(flow) and read == answers, ("ended", name)
        if state == "gone":
            assert (name, life) not in held, ("gone", name)
            running = [agent.birth() for agent in self.hub.running()]
            if name not in self.lost:
                self.lost[name] = any(birth not in running for birth in self.births[(name, life)])
            assert self.lost[name], ("told", name)


def whatever_is_missing(hub):
    """Returns what is missing of the moment of point 7, as a tuple that begins with a word, or None."""
    creators = {}
    lives = {}
    for agent in hub.running():
        for bucket, _ in agent.creates():
            creators.setdefault(bucket, []).append(agent.birth())
        for flow, life, _ in agent.lives():
            lives[(flow, life)] = agent.eaten_of(flow, life)
    for bucket in range(16):
        if len(creators.get(bucket, [])) != 1:
            return "creator", bucket
        for mux in hub.muxes:
            births = [birth for other, _, birth in mux.rows() if other == bucket]
            if births != creators[bucket]:
                return "mux", bucket
    for number, client in enumerate(hub.clients):
        for flow in range(1, client.count() + 1):
            if not is_done(client, (number, flow), lives):
                return "flow", (number, flow)
    return None


def is_done(client, name, lives):
    """Tells whether a flow is gone, or ended, or open and at rest, as point 7 wants it."""
    flow = name[1]
    if client.state(flow) == "gone":
        return True
    if client.is_closed(flow):
        return client.state(flow) == "ended"
    written = client.written(flow)
    is_read = client.read(flow) == answers_to(name, written)
    return client.state(flow) == "open" and is_read and lives.get((name, client.life(flow))) == written


def rounds_until_done(hub, most):
    """Tells rounds until nothing is missing, and returns their number; one more than `most` if these are not enough."""
    tick = 0
    while tick <= most and whatever_is_missing(hub) is not None:
        hub.go_round()
        tick += 1
    return tick
