"""Agents in the states that tests need, made by messages alone, and all that they show."""

import unittest

from heldflows.agent import Agent
from heldflows.held import Held

ME = (1, 2)
PEER = (2, 3)
THIRD = (3, 1)
FOURTH = (4, 7)
CONTROLLER = ("controller",)

# Flows of bucket 10, ascending, and one of bucket 5.
FLOWS = [(0, 2), (0, 18), (1, 7), (2, 12), (2, 300)]
FLOW = FLOWS[2]
ELSEWHERE = (0, 1)
# Lives, ascending.
LIVES = [(0, 1, 7), (2, 3, 1), (2, 3, 4), (5, 9, 2)]
LIFE = LIVES[1]


def picture_of(flow, life, eaten=()):
    """Returns the picture of a life whose app has read these bytes, at most 8."""
    held = Held(flow, life)
    if eaten:
        held.take(("up", flow, life, 0, eaten, 0, 0))
    return held.picture()


def to(birth, message):
    """Returns the pair of the address of the birth's agent and the message."""
    return ("agent", birth[0]), message


def wrap(packet, hops=8, bucket=10):
    return ("wrap", bucket, hops, packet)


def open_of(flow):
    return ("open", flow)


def up_of(flow, life, data=()):
    return ("up", flow, life, 0, data, 0, 0)


def no_of(flow, life):
    return ("no", flow, life)


def hand(flow=FLOW, life=LIFE, epoch=1, eaten=(), sender=PEER, receiver=ME):
    return ("hand", sender, receiver, flow, life, epoch, picture_of(flow, life, eaten))


def grant(rows=(), version=5, bucket=10, sender=None, receiver=ME):
    return ("grant", sender, receiver, bucket, version, rows)


def agent_with(*messages):
    """Returns the agent ME that has received these messages."""
    agent = Agent(*ME)
    for message in messages:
        agent.receive(message)
    return agent


def holder(flow=FLOW, life=LIFE, epoch=1, eaten=()):
    """Returns messages: the life is held."""
    return [hand(flow, life, epoch, eaten)]


def freezer(flow=FLOW, life=LIFE, epoch=1, receiver=THIRD, order=1, eaten=()):
    """Returns messages: the life is frozen with this epoch; the agent holds no other one."""
    return [hand(flow, life, epoch - 1, eaten), ("push", ME, order, 1, receiver)]


def hander(flow=FLOW, life=LIFE, epoch=1, receiver=THIRD, order=1):
    """Returns messages: the life was handed on with this epoch; the agent holds no other one."""
    return freezer(flow, life, epoch, receiver, order) + [("handed", receiver, ME, flow, life, epoch)]


def ender(flow=FLOW, life=LIFE, epoch=1, bucket=10):
    """Returns messages: the life ended here."""
    return [hand(flow, life, epoch), wrap(no_of(flow, life), bucket=bucket)]


def giver(receiver=THIRD, version=5, bucket=10):
    """Returns messages: the bucket was given to the receiver, and the grant does not have to be told any more."""
    return [
        grant((), version - 1, bucket), ("give", ME, bucket, version, receiver),
        ("granted", receiver, ME, bucket, version)]


def shown(agent):
    """Returns all that an agent shows; it is changed by that."""
    flows = [flow for flow, _, _ in agent.lives()] + [flow for flow, _, _, _ in agent.frozen()]
    seen = [
        agent.birth(), agent.lives(), agent.frozen(), agent.flows(), agent.creates(),
        [agent.directory(bucket) for bucket in range(16)],
        [agent.eaten_of(flow, life) for flow in flows for life in LIVES],
        agent.tick(), agent.tick(),
    ]
    # A report tells of the lives that were handed on or ended.
    for bucket in range(16):
        seen.append(agent.receive(("stop", bucket, 1000000, (ME,))))
    return seen


def notices(agent):
    """Returns the notices that an agent sends at a tick."""
    return [(address, message) for address, message in agent.tick() if message[0] in ("moved", "ended")]


def reported(agent, bucket=10):
    """Returns the rows that an agent reports of a bucket; what it created of it is lost."""
    (_, report), = agent.receive(("stop", bucket, 1000000, (agent.birth(),)))
    return report[4]


class AgentCase(unittest.TestCase):
    def changes_nothing(self, before, message, sent=()):
        """The agent that has received `before` answers the message so, and is not changed by it."""
        agent = agent_with(*before)
        self.assertEqual(agent.receive(message), list(sent), message)
        self.assertEqual(shown(agent), shown(agent_with(*before)), message)

    def answers(self, before, message, sent):
        """The agent that has received `before` answers the message so; it is returned."""
        agent = agent_with(*before)
        self.assertEqual(agent.receive(message), list(sent), message)
        return agent
