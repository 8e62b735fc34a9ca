"""Points 602 and 603: packets in wraps."""

import unittest

from agents import (
    AgentCase, ELSEWHERE, FLOW, FLOWS, FOURTH, LIFE, LIVES, ME, PEER, THIRD, agent_with, ender, freezer, giver, grant,
    hand, hander, holder, no_of, notices, open_of, reported, to, up_of, wrap)

# Births that are dead behind this message: the third agent's.
DEATH = ("births", ((3, 2),))
PACKETS = [open_of(FLOW), up_of(FLOW, LIFE, (4, 5)), no_of(FLOW, LIFE)]


def hello(flow, life):
    return ("client", flow[0]), ("hello", flow, life)


def gone(flow, life):
    return ("client", flow[0]), ("gone", flow, life)


def passed(birth, packet, hops=7, bucket=10):
    return to(birth, wrap(packet, hops, bucket))


class BucketTest(AgentCase):
    def test_a_bucket_that_is_not_the_one_of_the_flow(self):
        for before in (holder(), freezer(), hander(), giver(), [grant()], [grant((), 5, bucket) for bucket in range(16)]):
            for packet in PACKETS:
                for bucket in (0, 5, 9, 11, 15):
                    self.changes_nothing(before, wrap(packet, bucket=bucket))

    def test_all_buckets(self):
        grants = [grant((), 5, bucket) for bucket in range(16)]
        for number in range(1, 17):
            flow = (4, number)
            agent = agent_with(*grants)
            bucket = (5 * number + 28) % 16
            self.assertEqual(agent.receive(wrap(open_of(flow), bucket=bucket)), [hello(flow, ME + (1,))])
            self.assertEqual(agent.directory(bucket), ((flow, ME + (1,), 0, ME),))


class HeldTest(AgentCase):
    def test_open(self):
        self.changes_nothing(holder(), wrap(open_of(FLOW)), [hello(FLOW, LIFE)])

    def test_open_of_several_lives_takes_the_least(self):
        for lives in (LIVES, LIVES[::-1], LIVES[2:]):
            before = [hand(FLOW, life) for life in lives]
            self.changes_nothing(before, wrap(open_of(FLOW)), [hello(FLOW, min(lives))])

    def test_up(self):
        agent = self.answers(holder(), wrap(up_of(FLOW, LIFE, (4, 5))), [])
        self.assertEqual(agent.eaten_of(FLOW, LIFE), (4, 5))
        agent.receive(wrap(("up", FLOW, LIFE, 2, (6,), 0, 0)))
        self.assertEqual(agent.eaten_of(FLOW, LIFE), (4, 5, 6))
        # The client was met.
        self.assertNotIn(hello(FLOW, LIFE), agent.tick())

    def test_no(self):
        agent = self.answers(holder(epoch=6), wrap(no_of(FLOW, LIFE)), [])
        self.assertEqual(agent.lives(), [])
        self.assertIsNone(agent.eaten_of(FLOW, LIFE))
        self.assertEqual(reported(agent), ((FLOW, LIFE, 6, None),))

    def test_hops_are_not_asked(self):
        for hops in (0, 1, 8):
            self.changes_nothing(holder(), wrap(open_of(FLOW), hops), [hello(FLOW, LIFE)])
            agent = self.answers(holder(), wrap(up_of(FLOW, LIFE, (4,)), hops), [])
            self.assertEqual(agent.eaten_of(FLOW, LIFE), (4,))
            self.assertEqual(self.answers(holder(), wrap(no_of(FLOW, LIFE), hops), []).lives(), [])

    def test_other_lives_and_flows_are_not_held(self):
        for packet in (up_of(FLOW, LIVES[0], (4,)), no_of(FLOW, LIVES[3]), open_of(FLOWS[0]), up_of(FLOWS[3], LIFE, (4,)),
                       no_of(FLOWS[3], LIFE)):
            self.changes_nothing(holder(), wrap(packet))
        self.changes_nothing(holder(), wrap(open_of(ELSEWHERE), bucket=5))

    def test_before_what_is_frozen(self):
        # A lesser life of the flow is frozen.
        before = freezer(FLOW, LIVES[0]) + [hand(FLOW, LIVES[2])]
        self.changes_nothing(before, wrap(open_of(FLOW)), [hello(FLOW, LIVES[2])])

    def test_before_the_directory(self):
        for row in ((FLOW, LIFE, 9, THIRD), (FLOW, LIVES[3], 0, THIRD), (FLOW, LIVES[0], 0, ME)):
            before = holder() + [grant((row,))]
            self.changes_nothing(before, wrap(open_of(FLOW)), [hello(FLOW, LIFE)])
            agent = self.answers(before, wrap(up_of(FLOW, LIFE, (4,))), [])
            self.assertEqual(agent.eaten_of(FLOW, LIFE), (4,))
            self.assertEqual(self.answers(before, wrap(no_of(FLOW, LIFE)), []).lives(), [])


class FrozenTest(AgentCase):
    def test_it_is_passed_on(self):
        for packet in PACKETS:
            for hops in range(1, 9):
                self.changes_nothing(freezer(), wrap(packet, hops), [passed(THIRD, packet, hops - 1)])
            self.changes_nothing(freezer(), wrap(packet, 0))

    def test_open_of_several_lives_takes_the_least(self):
        before = freezer(FLOW, LIVES[2], receiver=PEER) + freezer(FLOW, LIFE, receiver=THIRD, order=2)
        before += freezer(FLOW, LIVES[3], receiver=FOURTH, order=3)
        self.changes_nothing(before, wrap(open_of(FLOW)), [passed(THIRD, open_of(FLOW))])
        for packet in (up_of(FLOW, LIVES[2]), no_of(FLOW, LIVES[2])):
            self.changes_nothing(before, wrap(packet), [passed(PEER, packet)])

    def test_other_lives_and_flows(self):
        for packet in (up_of(FLOW, LIVES[0]), no_of(FLOW, LIVES[0]), open_of(FLOWS[0]), up_of(FLOWS[0], LIFE)):
            self.changes_nothing(freezer(), wrap(packet))

    def test_before_the_directory(self):
        for row in ((FLOW, LIFE, 9, PEER), (FLOW, LIVES[3], 0, PEER)):
            for packet in PACKETS:
                self.changes_nothing(freezer() + [grant((row,))], wrap(packet), [passed(THIRD, packet)])
        for packet in PACKETS:
            self.changes_nothing(freezer() + [grant()], wrap(packet), [passed(THIRD, packet)])

    def test_before_what_was_handed_on_and_given(self):
        before = hander(FLOW, LIVES[0], receiver=PEER) + freezer(order=2) + giver(FOURTH)
        for packet in PACKETS:
            self.changes_nothing(before, wrap(packet), [passed(THIRD, packet)])


class CreatorTest(AgentCase):
    def test_open_without_a_row_makes_a_life(self):
        agent = self.answers([grant()], wrap(open_of(FLOW)), [hello(FLOW, (1, 2, 1))])
        self.assertEqual(agent.lives(), [(FLOW, (1, 2, 1), 0)])
        self.assertEqual(agent.directory(10), ((FLOW, (1, 2, 1), 0, ME),))
        self.assertEqual(agent.eaten_of(FLOW, (1, 2, 1)), ())
        self.assertEqual(agent.receive(wrap(open_of(FLOW))), [hello(FLOW, (1, 2, 1))])
        self.assertEqual(agent.lives(), [(FLOW, (1, 2, 1), 0)])

    def test_serials_that_were_not_used(self):
        agent = agent_with(grant(), grant((), 5, 5))
        for serial, flow in enumerate((FLOWS[3], FLOWS[0], FLOWS[4]), start=1):
            self.assertEqual(agent.receive(wrap(open_of(flow))), [hello(flow, (1, 2, serial))])
        # A life that has ended keeps its serial number, and the buckets share the numbers.
        agent.receive(wrap(no_of(FLOWS[4], (1, 2, 3))))
        self.assertEqual(agent.receive(wrap(open_of(FLOWS[4]))), [hello(FLOWS[4], (1, 2, 4))])
        self.assertEqual(agent.receive(wrap(open_of(ELSEWHERE), bucket=5)), [hello(ELSEWHERE, (1, 2, 5))])

    def test_hops_are_not_asked_for_a_new_life(self):
        self.answers([grant()], wrap(open_of(FLOW), 0), [hello(FLOW, (1, 2, 1))])

    def test_open_without_a_row_though_the_life_ended_here(self):
        for before in (ender() + [grant()], [grant()] + ender(), hander() + [grant()]):
            self.answers(before, wrap(open_of(FLOW)), [hello(FLOW, (1, 2, 1))])

    def test_up_and_no_without_a_row(self):
        others = [grant(((FLOWS[0], LIFE, 0, THIRD),))]
        for before in ([grant()], others, ender() + [grant()], hander() + [grant()]):
            for hops in (0, 8):
                self.changes_nothing(before, wrap(up_of(FLOW, LIFE, (4,)), hops), [gone(FLOW, LIFE)])
                self.changes_nothing(before, wrap(no_of(FLOW, LIFE), hops))

    def test_a_row_with_a_place_elsewhere(self):
        before = [grant(((FLOW, LIFE, 3, THIRD),))]
        for packet in PACKETS:
            for hops in (1, 8):
                self.changes_nothing(before, wrap(packet, hops), [passed(THIRD, packet, hops - 1)])
            self.changes_nothing(before, wrap(packet, 0))
            # The place may be another birth of the same agent.
            self.changes_nothing([grant(((FLOW, LIFE, 3, (1, 9)),))], wrap(packet), [passed((1, 9), packet)])

    def test_a_row_with_a_place_that_is_dead_or_this_birth(self):
        for packet in PACKETS:
            self.changes_nothing([grant(((FLOW, LIFE, 3, THIRD),)), DEATH], wrap(packet))
            self.changes_nothing([grant(((FLOW, LIFE, 3, (1, 1)),))], wrap(packet))
            self.changes_nothing([grant(((FLOW, LIFE, 3, ME),))], wrap(packet))
            # A greater birth is not dead, nor is the one that was told itself.
            for place in ((3, 2), (3, 3)):
                self.changes_nothing([grant(((FLOW, LIFE, 3, place),)), DEATH], wrap(packet), [passed(place, packet)])

    def test_a_row_with_another_life(self):
        before = [grant(((FLOW, LIVES[2], 3, THIRD),))]
        self.changes_nothing(before, wrap(open_of(FLOW)), [passed(THIRD, open_of(FLOW))])
        for hops in (0, 8):
            self.changes_nothing(before, wrap(up_of(FLOW, LIFE, (4,)), hops), [gone(FLOW, LIFE)])
            self.changes_nothing(before, wrap(no_of(FLOW, LIFE), hops))

    def test_before_what_was_handed_on(self):
        row = (FLOW, LIFE, 0, PEER)
        # The row is corrected when it comes: this birth knows that the life went on.
        before = hander(receiver=THIRD) + [grant((row,))]
        for packet in PACKETS:
            self.changes_nothing(before, wrap(packet), [passed(THIRD, packet)])
        row = (FLOW, LIFE, 9, PEER)
        for packet in PACKETS:
            self.changes_nothing(hander() + [grant((row,))], wrap(packet), [passed(PEER, packet)])


class HandedOnTest(AgentCase):
    def test_it_is_passed_on(self):
        for packet in PACKETS:
            for hops in range(1, 9):
                self.changes_nothing(hander(), wrap(packet, hops), [passed(THIRD, packet, hops - 1)])
            self.changes_nothing(hander(), wrap(packet, 0))

    def test_before_what_was_given(self):
        for packet in PACKETS:
            self.changes_nothing(hander() + giver(PEER), wrap(packet), [passed(THIRD, packet)])
            self.changes_nothing(hander() + giver(PEER), wrap(packet, 0))

    def test_a_dead_birth(self):
        for packet in PACKETS:
            self.changes_nothing(hander() + [DEATH], wrap(packet))
            self.changes_nothing(hander() + giver(PEER) + [DEATH], wrap(packet), [passed(PEER, packet)])
            self.changes_nothing(hander(receiver=(3, 2)) + [DEATH], wrap(packet), [passed((3, 2), packet)])

    def test_only_the_least_life_is_asked_whether_its_birth_is_dead(self):
        before = hander(FLOW, LIVES[2], receiver=PEER) + hander(receiver=THIRD, order=2)
        self.changes_nothing(before, wrap(open_of(FLOW)), [passed(THIRD, open_of(FLOW))])
        before += [DEATH]
        self.changes_nothing(before, wrap(open_of(FLOW)))
        self.changes_nothing(before + giver(FOURTH), wrap(open_of(FLOW)), [passed(FOURTH, open_of(FLOW))])
        for packet in (up_of(FLOW, LIVES[2]), no_of(FLOW, LIVES[2])):
            self.changes_nothing(before, wrap(packet), [passed(PEER, packet)])
        before = hander(FLOW, LIVES[2], receiver=THIRD) + hander(receiver=PEER, order=2) + [DEATH]
        self.changes_nothing(before, wrap(open_of(FLOW)), [passed(PEER, open_of(FLOW))])

    def test_a_lesser_life_that_ended_does_not_hinder(self):
        before = hander(FLOW, LIVES[2]) + ender()
        self.changes_nothing(before, wrap(open_of(FLOW)), [passed(THIRD, open_of(FLOW))])
        for packet in PACKETS[1:]:
            self.changes_nothing(before, wrap(packet))

    def test_other_lives_and_flows(self):
        for packet in (up_of(FLOW, LIVES[0]), no_of(FLOW, LIVES[0]), open_of(FLOWS[0]), no_of(FLOWS[0], LIFE)):
            self.changes_nothing(hander(), wrap(packet))
            self.changes_nothing(hander() + giver(PEER), wrap(packet), [passed(PEER, packet)])


class GivenTest(AgentCase):
    def test_it_is_passed_on(self):
        for packet in PACKETS:
            for before in (giver(), ender() + giver()):
                for hops in range(1, 9):
                    self.changes_nothing(before, wrap(packet, hops), [passed(THIRD, packet, hops - 1)])
                self.changes_nothing(before, wrap(packet, 0))

    def test_a_dead_birth(self):
        for packet in PACKETS:
            self.changes_nothing(giver() + [DEATH], wrap(packet))
            self.changes_nothing(giver((3, 2)) + [DEATH], wrap(packet), [passed((3, 2), packet)])

    def test_another_bucket_was_given(self):
        for packet in PACKETS:
            self.changes_nothing(giver(bucket=5), wrap(packet))


class NothingTest(AgentCase):
    def test_nothing_is_known(self):
        table = ("table", ((10, 9, THIRD),))
        for before in ([], [table], ender(), holder(ELSEWHERE), [grant((), 5, 5)]):
            for packet in PACKETS:
                self.changes_nothing(before, wrap(packet))


class EndedTest(AgentCase):
    """Point 611, as far as a packet `no` shows it."""

    def test_notice(self):
        table = ("table", ((10, 9, THIRD),))
        agent = agent_with(*ender(epoch=6), table)
        self.assertEqual(notices(agent), [to(THIRD, ("ended", ME, FLOW, LIFE, 6))])

    def test_the_row_is_removed_at_once_by_its_creator(self):
        agent = agent_with(grant(), wrap(open_of(FLOW)), wrap(open_of(FLOWS[0])))
        agent.receive(wrap(no_of(FLOW, (1, 2, 1))))
        self.assertEqual(agent.directory(10), ((FLOWS[0], (1, 2, 2), 0, ME),))
        self.assertEqual(agent.lives(), [(FLOWS[0], (1, 2, 2), 0)])
        agent.receive(("table", ((10, 9, THIRD),)))
        self.assertEqual(notices(agent), [])

    def test_a_second_no(self):
        self.changes_nothing(ender(), wrap(no_of(FLOW, LIFE)))


class ClientsTest(AgentCase):
    def test_packets_go_to_the_client_of_the_flow(self):
        for flow in FLOWS:
            self.changes_nothing([hand(flow, LIFE)], wrap(open_of(flow)), [hello(flow, LIFE)])
            self.changes_nothing([grant()], wrap(up_of(flow, LIFE)), [gone(flow, LIFE)])


if __name__ == "__main__":
    unittest.main()
