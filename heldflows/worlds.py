"""Worlds: clients, agents, muxes, a controller, and the net between them (points 800 to 805)."""

from heldflows.agent import Agent
from heldflows.clients import Client
from heldflows.controller import Controller
from heldflows.errors import BadCall
from heldflows.muxes import Mux
from heldflows.nets import Net


class World:
    """A world, which is told events; the agents that do not run are None."""

    def __init__(self, clients, agents, muxes):
        self._time = 0
        self._clients = [Client(client) for client in range(clients)]
        self._agents = [Agent(agent, 1) for agent in range(agents)]
        self._last_births = [1 for _ in range(agents)]
        self._muxes = [Mux(mux) for mux in range(muxes)]
        self._routes = [client % muxes for client in range(clients)]
        self._controller = Controller(muxes)
        self._net = Net()

    def do(self, event):
        """Takes an event."""
        self._time += 1
        word = event[0]
        if word in ("open", "write", "close"):
            self._ask_client(event)
        elif word in ("client", "agent", "controller", "round"):
            self._tell_time(event)
        elif word in ("deliver", "lose", "double", "spoil"):
            self._change_net(event)
        else:
            self._change_parts(event)

    def picture(self):
        """Returns the picture of the world."""
        clients = tuple([_picture_of_client(client) for client in self._clients])
        agents = tuple([_picture_of_agent(agent) for agent in self._agents if agent is not None])
        return self._time, clients, agents

    def count(self):
        """Returns the number of letters."""
        return self._net.count()

    def letter(self, place):
        """Returns the pair of the address and the bytes of a letter."""
        return self._net.letter(place)

    def rows(self, mux):
        """Returns the rows of the table of a mux."""
        return self._muxes[mux].rows()

    def _ask_client(self, event):
        client = self._clients[event[1]]
        try:
            if event[0] == "open":
                client.open_flow()
            elif event[0] == "write":
                client.write(event[2], event[3])
            else:
                client.close(event[2])
        except BadCall:
            # What the client does not allow has no effect.
            return

    def _tell_time(self, event):
        match event:
            case ("client", client):
                self._tick_client(client)
            case ("agent", agent):
                self._tick_agent(agent)
            case ("controller",):
                self._send(self._controller.tick())
            case _:
                self._go_round()

    def _change_parts(self, event):
        match event:
            case ("stop", agent):
                self._agents[agent] = None
            case ("start", agent):
                self._start(agent)
            case ("forget", mux):
                self._muxes[mux].forget()
            case ("route", client, mux):
                self._routes[client] = mux
            case ("wish", agent, wish):
                self._controller.wish(agent, wish)

    def _tick_client(self, client):
        self._send_packets(client, self._clients[client].tick())

    def _tick_agent(self, agent):
        if self._agents[agent] is not None:
            self._send(self._agents[agent].tick())

    def _start(self, agent):
        if self._agents[agent] is None:
            self._last_births[agent] += 1
            self._agents[agent] = Agent(agent, self._last_births[agent])

    def _change_net(self, event):
        if self._net.count() == 0:
            return
        place = event[1] % self._net.count()
        if event[0] == "deliver":
            self._deliver(place)
        elif event[0] == "lose":
            self._net.take(place)
        elif event[0] == "double":
            self._net.double(place)
        else:
            self._net.spoil(place, event[2], event[3])

    def _go_round(self):
        # What is sent meanwhile stands behind these letters, and is not received in this round.
        for _ in range(self._net.count()):
            self._deliver(0)
        for client in range(len(self._clients)):
            self._tick_client(client)
        for agent in range(len(self._agents)):
            self._tick_agent(agent)
        self._send(self._controller.tick())

    def _deliver(self, place):
        letter = self._net.take(place)
        if letter is None:
            return
        address, message = letter
        match address:
            case ("client", client):
                self._send_packets(client, self._clients[client].receive(message))
            case ("mux", mux):
                self._send(self._muxes[mux].receive(message))
            case ("agent", agent):
                if self._agents[agent] is not None:
                    self._send(self._agents[agent].receive(message))
            case _:
                self._send(self._controller.receive(message))

    def _send(self, sent):
        for address, message in sent:
            self._net.send(address, message)

    def _send_packets(self, client, packets):
        for packet in packets:
            self._net.send(("mux", self._routes[client]), packet)


def _picture_of_client(client):
    return tuple([_picture_of_flow(client, number) for number in range(1, client.count() + 1)])


def _picture_of_flow(client, number):
    closed = 1 if client.is_closed(number) else 0
    front = (number, client.life(number), client.written(number), closed)
    return front + (client.read(number), client.state(number))


def _picture_of_agent(agent):
    held, frozen = agent.flows()
    return agent.birth(), held, frozen, tuple([bucket for bucket, _ in agent.creates()])
