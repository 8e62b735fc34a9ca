"""Points 600, 601 and 615 to 617: what an agent is told, what it sends at a tick, and what it returns."""

import unittest

from agents import (
    AgentCase, CONTROLLER, ELSEWHERE, FLOW, FLOWS, FOURTH, LIFE, LIVES, ME, PEER, THIRD, agent_with, ender, freezer,
    giver, grant, hand, hander, holder, no_of, notices, open_of, picture_of, reported, shown, to, up_of, wrap)
from heldflows.agent import Agent
from heldflows.messages import is_message
from strange import Plain, STRANGE

DEATH = ("births", ((3, 2),))
BORN = (CONTROLLER, ("born", ME))


def held_many(many):
    return CONTROLLER, ("held", ME, many)


def row_of(birth, bucket=10):
    return ("table", ((bucket, 1, birth),))


# An agent that has something to send for each of the seven steps.
FULL = [
    hand(FLOWS[0], LIVES[2], 3), ("push", ME, 1, 1, THIRD), hand(FLOWS[0], LIFE, 6), ("push", ME, 2, 1, PEER),
    hand(FLOWS[4], LIVES[1], 1), hand(FLOW, LIVES[2], 2, (5,)), hand(FLOW, LIFE, 4), hand(FLOWS[3], LIFE, 2),
    wrap(no_of(FLOWS[3], LIFE)),
    grant((), 3, 15), grant((), 2, 2), ("give", ME, 15, 4, PEER), ("give", ME, 2, 9, THIRD),
    grant((), 7, 7), grant((), 8, 4), grant((), 9, 6), row_of(FOURTH)]


class NewTest(AgentCase):
    def test_it_knows_nothing(self):
        for agent in range(6):
            for k in (1, 2, 1000000):
                new = Agent(agent, k)
                self.assertEqual(new.birth(), (agent, k))
                self.assertEqual((new.lives(), new.frozen(), new.creates(), new.flows()), ([], [], [], ((), ())))
                self.assertEqual([new.directory(bucket) for bucket in range(16)], [None] * 16)
                self.assertIsNone(new.eaten_of(FLOW, LIFE))
                for _ in range(3):
                    self.assertEqual(new.tick(), [
                        (CONTROLLER, ("born", (agent, k))), (CONTROLLER, ("held", (agent, k), 0))])

    def test_births_share_nothing(self):
        first, second = agent_with(*FULL), Agent(*ME)
        before = shown(Agent(*ME))
        self.assertEqual(shown(second), before)
        second.receive(grant())
        self.assertEqual(shown(first), shown(agent_with(*FULL)))

    def test_a_later_birth_knows_nothing_of_an_earlier_one(self):
        earlier = agent_with(grant(), *holder())
        later = Agent(1, 3)
        self.assertEqual(later.receive(wrap(open_of(FLOW))), [])
        self.assertEqual((later.lives(), later.creates()), ([], []))
        self.assertEqual(len(earlier.lives()), 1)

    def test_it_uses_no_random_numbers(self):
        self.assertEqual(shown(agent_with(*FULL)), shown(agent_with(*FULL)))


class TickTest(AgentCase):
    def test_the_order_of_what_is_sent(self):
        agent = agent_with(*FULL)
        client = ("client", 1)
        expected = [
            BORN,
            (client, ("hello", FLOW, LIFE)), (client, ("down", FLOW, LIFE, 0, (), 0, 0)),
            (client, ("down", FLOW, LIVES[2], 0, ((5 + 37 + 77 + 5) % 256,), 0, 1)),
            (("client", 2), ("hello", FLOWS[4], LIFE)), (("client", 2), ("down", FLOWS[4], LIFE, 0, (), 0, 0)),
            to(THIRD, ("grant", ME, THIRD, 2, 9, ())), to(PEER, ("grant", ME, PEER, 15, 4, ())),
            to(PEER, ("hand", ME, PEER, FLOWS[0], LIFE, 7, picture_of(FLOWS[0], LIFE))),
            to(THIRD, ("hand", ME, THIRD, FLOWS[0], LIVES[2], 4, picture_of(FLOWS[0], LIVES[2]))),
            to(FOURTH, ("moved", ME, FLOW, LIFE, 4, ME)), to(FOURTH, ("moved", ME, FLOW, LIVES[2], 2, ME)),
            to(FOURTH, ("ended", ME, FLOWS[3], LIFE, 2)), to(FOURTH, ("moved", ME, FLOWS[4], LIFE, 1, ME)),
            (CONTROLLER, ("owns", ME, 4, 8)), (CONTROLLER, ("owns", ME, 6, 9)), (CONTROLLER, ("owns", ME, 7, 7)),
            held_many(5)]
        for _ in range(3):
            self.assertEqual(agent.tick(), expected)

    def test_what_it_leaves_when_all_is_answered(self):
        agent = agent_with(*FULL)
        for message in (
                ("births", (ME,)), ("granted", THIRD, ME, 2, 9), ("granted", PEER, ME, 15, 4),
                ("handed", PEER, ME, FLOWS[0], LIFE, 7), ("handed", THIRD, ME, FLOWS[0], LIVES[2], 4),
                ("noted", ME, FLOW, LIFE, 4), ("noted", ME, FLOW, LIVES[2], 2), ("noted", ME, FLOWS[3], LIFE, 2),
                ("noted", ME, FLOWS[4], LIFE, 1), ("known", ME, 4, 8), ("known", ME, 6, 9), ("known", ME, 7, 7)):
            self.assertEqual(agent.receive(message), [])
        words = [message[0] for _, message in agent.tick()]
        self.assertEqual(words, ["hello", "down", "down", "hello", "down", "held"])

    def test_packets_of_what_is_held(self):
        agent = agent_with(*holder(), ("births", (ME,)))
        agent.receive(wrap(up_of(FLOW, LIFE, (5,))))
        answer = (("client", 1), ("down", FLOW, LIFE, 0, ((5 + 37 + 77 + 5) % 256,), 0, 1))
        for _ in range(2):
            self.assertEqual(agent.tick(), [answer, held_many(1)])

    def test_a_new_life(self):
        agent = agent_with(grant(), ("known", ME, 10, 5), ("births", (ME,)), wrap(open_of(FLOW)))
        life = ME + (1,)
        self.assertEqual(agent.tick(), [
            (("client", 1), ("hello", FLOW, life)), (("client", 1), ("down", FLOW, life, 0, (), 0, 0)), held_many(1)])

    def test_the_number_of_held_and_frozen_lives(self):
        for before, many in (([], 0), (holder(), 1), (freezer(), 1), (hander(), 0), (ender(), 0),
                             (holder() + freezer(FLOWS[0]), 2), (holder() + holder(FLOW, LIVES[0]), 2)):
            self.assertEqual(agent_with(*before).tick()[-1], held_many(many))


class NoticesTest(AgentCase):
    moved = ("moved", ME, FLOW, LIFE, 1, ME)

    def test_to_the_pointer_first(self):
        for table in ([], [row_of(FOURTH)], [row_of(ME)]):
            agent = agent_with(*holder(), *giver(), *table)
            # The notice was still to tell when this birth became the creator, and it gave the bucket before a tick.
            self.assertEqual(notices(agent), [to(THIRD, self.moved)])

    def test_to_the_table_if_the_pointer_is_dead(self):
        self.assertEqual(notices(agent_with(*holder(), *giver(), row_of(FOURTH), DEATH)), [to(FOURTH, self.moved)])
        self.assertEqual(notices(agent_with(*holder(), *giver(), row_of(ME), DEATH)), [])
        self.assertEqual(notices(agent_with(*holder(), *giver(), DEATH)), [])

    def test_to_the_table_without_a_pointer(self):
        for birth in (FOURTH, PEER, (1, 1), (1, 3)):
            self.assertEqual(notices(agent_with(*holder(), row_of(birth))), [to(birth, self.moved)])
        # Whether the birth of the table is dead is not asked.
        self.assertEqual(notices(agent_with(*holder(), row_of(THIRD), DEATH)), [to(THIRD, self.moved)])

    def test_not_sent_at_this_tick(self):
        for table in ([], [row_of(ME)], [row_of(FOURTH, 5)]):
            agent = agent_with(*holder(), *table)
            for _ in range(2):
                self.assertEqual(notices(agent), [])
            agent.receive(("table", ((10, 2, FOURTH),)))
            self.assertEqual(notices(agent), [to(FOURTH, self.moved)])

    def test_buckets_of_which_it_has_become_the_creator(self):
        others = ((FLOWS[0], LIFE, 0, THIRD), (FLOWS[4], LIVES[3], 9, PEER))
        for row in ((FLOW, LIFE, 0, THIRD), (FLOW, LIFE, 1, THIRD), (FLOW, LIFE, 5, THIRD)):
            agent = agent_with(*holder(), row_of(FOURTH), grant((row,) + others))
            self.assertEqual(notices(agent), [])
            place = (FLOW, LIFE, 1, ME) if row[2] < 1 else row
            self.assertEqual(agent.directory(10), (others[0], place, others[1]))
            # They do not have to be told any more.
            agent.receive(("stop", 10, 9, (ME,)))
            self.assertEqual(notices(agent), [])

    def test_a_row_of_a_life_that_ended_is_removed(self):
        row = (FLOW, LIFE, 5, THIRD)
        agent = agent_with(*ender(), row_of(FOURTH), grant((row,)))
        self.assertEqual(agent.directory(10), (row,))
        self.assertEqual(notices(agent), [])
        self.assertEqual(agent.directory(10), ())

    def test_notices_of_other_buckets_are_sent(self):
        agent = agent_with(
            *holder(), hand(ELSEWHERE, LIFE, 2), ("table", ((10, 1, FOURTH), (5, 1, THIRD))), grant(bucket=5))
        self.assertEqual(notices(agent), [to(FOURTH, self.moved)])
        agent.receive(("stop", 5, 9, (ME,)))
        self.assertEqual(notices(agent), [to(FOURTH, self.moved)])

    def test_they_go_to_the_newest_row(self):
        agent = agent_with(*holder(), ("table", ((10, 4, FOURTH),)))
        for rows, birth in ((((10, 3, PEER),), FOURTH), (((10, 4, PEER),), FOURTH), (((10, 5, PEER), (10, 4, ME)), PEER)):
            self.assertEqual(agent.receive(("table", rows)), [])
            self.assertEqual(notices(agent), [to(birth, self.moved)])


class LooksTest(AgentCase):
    def test_eaten_of(self):
        agent = agent_with(
            *freezer(FLOWS[0], LIFE, 1, eaten=(7, 8)), *ender(FLOWS[3], LIFE), *hander(FLOWS[4], LIFE, order=2),
            hand(FLOW, LIFE, 1, (1, 2, 3)), hand(FLOW, LIVES[2], 1))
        self.assertEqual(agent.eaten_of(FLOWS[0], LIFE), (7, 8))
        self.assertEqual(agent.eaten_of(FLOW, LIFE), (1, 2, 3))
        self.assertEqual(agent.eaten_of(FLOW, LIVES[2]), ())
        for flow, life in ((FLOWS[3], LIFE), (FLOWS[4], LIFE), (FLOW, LIVES[0]), (FLOWS[1], LIFE), (ELSEWHERE, LIFE)):
            self.assertIsNone(agent.eaten_of(flow, life))

    def test_rows_are_ascending(self):
        lives = [(flow, life) for flow in FLOWS for life in LIVES]
        agent = agent_with(*[hand(flow, life, 1, (7,)) for flow, life in lives[::-1]])
        self.assertEqual(agent.lives(), [(flow, life, 1) for flow, life in lives])
        self.assertEqual(agent.flows(), (tuple((flow, life, 1, (7,)) for flow, life in lives), ()))
        agent.receive(("push", ME, 1, 100, THIRD))
        self.assertEqual(agent.frozen(), [(flow, life, 2, THIRD) for flow, life in lives])
        self.assertEqual(agent.flows(), ((), tuple((flow, life, 2, (7,)) for flow, life in lives)))

    def test_buckets_are_ascending(self):
        buckets = (7, 0, 15, 10)
        agent = agent_with(*[grant((), bucket + 1, bucket) for bucket in buckets])
        self.assertEqual(agent.creates(), [(bucket, bucket + 1) for bucket in sorted(buckets)])
        for bucket in range(16):
            self.assertEqual(agent.directory(bucket), () if bucket in buckets else None)

    def test_kinds_of_values(self):
        agent = agent_with(grant(), *freezer(), *holder(FLOWS[0]), wrap(open_of(FLOWS[3])))
        for found in (agent.lives(), agent.frozen(), agent.creates(), agent.tick(), agent.receive(None)):
            self.assertIs(type(found), list)
            for row in found:
                self.assertIs(type(row), tuple)
        for found in (agent.flows(), agent.flows()[0], agent.flows()[1], agent.directory(10), agent.birth(),
                      agent.eaten_of(FLOW, LIFE), agent.eaten_of(FLOWS[0], LIFE)):
            self.assertIs(type(found), tuple)

    def test_messages_are_messages(self):
        agent = agent_with(*FULL)
        sent = agent.tick() + agent.receive(wrap(open_of(FLOW))) + agent.receive(grant((), 99, 9, PEER))
        sent += agent.receive(("push", ME, 9, 2, THIRD)) + agent.receive(hand(FLOWS[1])) + agent.receive(
            ("stop", 10, 9, (ME,)))
        for address, message in sent:
            self.assertTrue(is_message(address, message), (address, message))


class NoMessagesTest(AgentCase):
    def test_values_of_any_kind(self):
        agent = agent_with(*FULL)
        for value in STRANGE:
            self.assertEqual(agent.receive(value), [])
        self.assertEqual(shown(agent), shown(agent_with(*FULL)))

    def test_messages_to_others(self):
        agent = agent_with(*FULL)
        for value in (
                ("born", ME), ("report", ME, 10, 9, ()), ("owns", ME, 10, 9), ("pushed", ME, 1), ("held", ME, 1),
                open_of(FLOW), up_of(FLOW, LIFE), no_of(FLOW, LIFE), ("hello", FLOW, LIFE), ("gone", FLOW, LIFE),
                wrap(("hello", FLOW, LIFE)), wrap(("gone", FLOW, LIFE))):
            self.assertEqual(agent.receive(value), [])
        self.assertEqual(shown(agent), shown(agent_with(*FULL)))

    def test_messages_with_one_part_spoilt(self):
        messages = [
            wrap(up_of(FLOW, LIFE, (1,))), ("give", ME, 7, 9, THIRD), grant((), 9), grant((), 9, sender=PEER),
            ("granted", THIRD, ME, 2, 9), ("known", ME, 7, 7), ("births", (ME,)), ("stop", 7, 9, (ME,)),
            ("push", ME, 9, 2, THIRD), hand(epoch=9), ("handed", THIRD, ME, FLOWS[0], LIVES[2], 4),
            ("moved", PEER, FLOW, LIFE, 9, PEER), ("ended", PEER, FLOW, LIFE, 4), ("noted", ME, FLOW, LIFE, 4),
            ("table", ((10, 9, PEER),))]
        agent = agent_with(*FULL)
        for message in messages:
            for at in range(len(message)):
                for part in (True, False, -1, 10 ** 7, "", "x", (0,), ((0,),), (None,), [], {}, 1.0, Plain()):
                    # Whatever can be written may be a picture.
                    if message[0] != "hand" or at != 6:
                        self.assertEqual(agent.receive(message[:at] + (part,) + message[at + 1:]), [])
                self.assertEqual(agent.receive(message[:at] + message[at + 1:]), [])
            for value in (list(message), message + (0,), message + message, (message,)):
                self.assertEqual(agent.receive(value), [])
        self.assertEqual(shown(agent), shown(agent_with(*FULL)))

    def test_a_picture_that_cannot_be_written(self):
        for picture in (True, -1, 1.0, "A", [], ([],), {}, 2 ** 32):
            self.changes_nothing(FULL, hand(FLOWS[1])[:-1] + (picture,))


class ListsTest(AgentCase):
    def test_lists_that_are_returned_are_new(self):
        agent = agent_with(*FULL)
        for call in (Agent.lives, Agent.frozen, Agent.creates, Agent.tick):
            before = call(agent)
            call(agent).clear()
            call(agent).append(1)
            self.assertEqual(call(agent), before)
        for message in (None, wrap(open_of(FLOW)), ("births", ()), ("table", ()), ("push", ME, 1, 1, THIRD),
                        hand(FLOW, LIFE, 1), grant((), 1, sender=PEER), ("moved", PEER, FLOW, LIFE, 1, PEER),
                        ("stop", 9, 1, (ME,)), wrap(no_of(FLOWS[0], LIFE))):
            before = agent.receive(message)
            agent.receive(message).append(1)
            self.assertEqual(agent.receive(message), before)
            before.clear()
            agent.receive(message).clear()


class PlaceTest(unittest.TestCase):
    def test_names_are_defined_in_their_file(self):
        self.assertEqual(Agent.__module__, "heldflows.agent")
        for name in ("receive", "tick", "birth", "lives", "frozen", "creates", "directory", "flows", "eaten_of"):
            self.assertIn(name, vars(Agent))


if __name__ == "__main__":
    unittest.main()
