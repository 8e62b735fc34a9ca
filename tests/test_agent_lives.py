"""Points 609 to 614: handing flows on."""

import unittest

from agents import (
    AgentCase, CONTROLLER, ELSEWHERE, FLOW, FLOWS, FOURTH, LIFE, LIVES, ME, PEER, THIRD, agent_with, ender, freezer,
    giver, grant, hand, hander, holder, no_of, notices, open_of, picture_of, reported, to, up_of, wrap)

DEATH = ("births", ((3, 2),))
# The agent sends its notices of bucket 10 to the agent of FOURTH.
TABLE = ("table", ((10, 1, FOURTH), (5, 1, FOURTH)))
HELD_TWICE = [hand(FLOWS[4], LIFE, 1), hand(FLOW, LIVES[2], 2), hand(FLOWS[0], LIVES[3], 3), hand(FLOW, LIFE, 4)]


def push(order=1, many=1, receiver=THIRD, mine=ME):
    return ("push", mine, order, many, receiver)


def pushed(order=1):
    return CONTROLLER, ("pushed", ME, order)


def handed(epoch=1, flow=FLOW, life=LIFE, receiver=ME, sender=THIRD):
    return ("handed", sender, receiver, flow, life, epoch)


def hand_to(receiver, flow, life, epoch, eaten=()):
    return to(receiver, ("hand", ME, receiver, flow, life, epoch, picture_of(flow, life, eaten)))


def answer_of(epoch, flow=FLOW, life=LIFE, sender=PEER):
    return to(sender, ("handed", ME, sender, flow, life, epoch))


class PushTest(AgentCase):
    def test_the_first_lives_are_frozen(self):
        rows = [(FLOWS[0], LIVES[3], 3), (FLOW, LIFE, 4), (FLOW, LIVES[2], 2), (FLOWS[4], LIFE, 1)]
        for many in range(6):
            for receiver in (THIRD, FOURTH, (0, 1)):
                sent = [hand_to(receiver, flow, life, epoch + 1) for flow, life, epoch in rows[:many]]
                agent = self.answers(HELD_TWICE, push(7, many, receiver), sent + [pushed(7)])
                self.assertEqual(agent.lives(), rows[many:])
                self.assertEqual(agent.frozen(), [
                    (flow, life, epoch + 1, receiver) for flow, life, epoch in rows[:many]])
                self.assertEqual(agent.tick()[-1], (CONTROLLER, ("held", ME, 4)))

    def test_what_is_left_is_the_picture(self):
        agent = self.answers(holder(eaten=(7, 8)), push(), [hand_to(THIRD, FLOW, LIFE, 2, (7, 8)), pushed()])
        self.assertEqual(agent.eaten_of(FLOW, LIFE), (7, 8))
        self.assertEqual(agent.flows(), ((), ((FLOW, LIFE, 2, (7, 8)),)))
        # It is not the `Held` that takes packets now.
        self.assertEqual(agent.receive(wrap(("up", FLOW, LIFE, 2, (9,), 0, 0), 0)), [])
        self.assertEqual(agent.eaten_of(FLOW, LIFE), (7, 8))
        self.assertIn(hand_to(THIRD, FLOW, LIFE, 2, (7, 8)), agent.tick())

    def test_lives_that_are_frozen_already_are_not_counted(self):
        agent = agent_with(*HELD_TWICE, push(1, 1), push(2, 1, PEER))
        self.assertEqual(agent.frozen(), [(FLOWS[0], LIVES[3], 4, THIRD), (FLOW, LIFE, 5, PEER)])
        self.assertEqual(agent.lives(), [(FLOW, LIVES[2], 2), (FLOWS[4], LIFE, 1)])

    def test_the_giver_is_another_birth(self):
        for mine in ((1, 1), (1, 3), PEER, THIRD):
            self.changes_nothing(HELD_TWICE, push(mine=mine))
            # The number of the order is not taken then.
            agent = agent_with(*HELD_TWICE, push(mine=mine), push())
            self.assertEqual(len(agent.frozen()), 1)

    def test_an_order_that_it_has_had(self):
        for before in ([push()], [push(many=0)], [push(receiver=ME)], [push(receiver=(1, 9))], [DEATH, push()],
                       [push(4), push(), push(3)]):
            agent = agent_with(*before, *HELD_TWICE)
            for receiver in (THIRD, PEER, FOURTH, ME):
                self.assertEqual(agent.receive(push(1, 4, receiver)), [pushed()])
            self.assertEqual((len(agent.lives()), agent.frozen()), (4, []))

    def test_orders_in_any_sequence(self):
        agent = agent_with(*HELD_TWICE)
        for order in (1000000, 0, 3):
            self.assertEqual(agent.receive(push(order))[-1], pushed(order))
        self.assertEqual(len(agent.frozen()), 3)

    def test_receivers_that_are_none(self):
        for receiver in (ME, (1, 1), (1, 3)):
            self.changes_nothing(HELD_TWICE, push(receiver=receiver), [pushed()])
        self.changes_nothing(HELD_TWICE + [DEATH], push(), [pushed()])
        for receiver in ((3, 2), (3, 3)):
            agent = agent_with(*HELD_TWICE, DEATH, push(receiver=receiver))
            self.assertEqual(agent.frozen(), [(FLOWS[0], LIVES[3], 4, receiver)])

    def test_what_it_had_to_tell_about_them_is_forgotten(self):
        agent = agent_with(*HELD_TWICE, TABLE)
        self.assertEqual([message[2:4] for _, message in notices(agent)], [
            (FLOWS[0], LIVES[3]), (FLOW, LIFE), (FLOW, LIVES[2]), (FLOWS[4], LIFE)])
        agent.receive(push(many=2))
        self.assertEqual([message[2:4] for _, message in notices(agent)], [(FLOW, LIVES[2]), (FLOWS[4], LIFE)])

    def test_the_row_stays(self):
        agent = agent_with(grant(), wrap(open_of(FLOW)), push())
        self.assertEqual(agent.directory(10), ((FLOW, (1, 2, 1), 0, ME),))


class HandTest(AgentCase):
    def test_a_life_of_which_it_knows_nothing(self):
        for epoch in (0, 1, 1000000):
            agent = self.answers([TABLE], hand(FLOW, LIFE, epoch, (7, 8)), [answer_of(epoch)])
            self.assertEqual(agent.lives(), [(FLOW, LIFE, epoch)])
            self.assertEqual(agent.flows(), (((FLOW, LIFE, epoch, (7, 8)),), ()))
            self.assertEqual(notices(agent), [to(FOURTH, ("moved", ME, FLOW, LIFE, epoch, ME))])
            # The client was met before.
            self.assertEqual(agent.tick()[1][1][0], "down")

    def test_it_goes_on_where_it_was(self):
        agent = agent_with(hand(FLOW, LIFE, 1, (7, 8)))
        agent.receive(wrap(("up", FLOW, LIFE, 2, (9,), 0, 0)))
        self.assertEqual(agent.eaten_of(FLOW, LIFE), (7, 8, 9))

    def test_a_lesser_epoch_is_known(self):
        for known, state in ((3, holder), (3, freezer), (3, hander), (3, ender), (0, holder), (0, ender)):
            for epoch in (known + 1, known + 2, 1000000):
                before = state(epoch=known) + [TABLE]
                agent = self.answers(before, hand(FLOW, LIFE, epoch, (7, 8)), [answer_of(epoch)])
                self.assertEqual(agent.lives(), [(FLOW, LIFE, epoch)])
                self.assertEqual(agent.frozen(), [])
                self.assertEqual(agent.eaten_of(FLOW, LIFE), (7, 8))
                self.assertEqual(notices(agent), [to(FOURTH, ("moved", ME, FLOW, LIFE, epoch, ME))])
                self.assertEqual(reported(agent), ((FLOW, LIFE, epoch, ME),))

    def test_no_lesser_epoch_is_known(self):
        for state in (holder, freezer, hander, ender):
            for epoch in (0, 2, 3):
                self.changes_nothing(state(epoch=3) + [TABLE], hand(FLOW, LIFE, epoch, (7, 8)), [answer_of(epoch)])

    def test_other_lives_are_not_asked(self):
        before = holder(FLOW, LIVES[0], 9) + ender(FLOW, LIVES[3], 9) + holder(FLOWS[0], LIFE, 9)
        agent = self.answers(before, hand(), [answer_of(1)])
        self.assertEqual(agent.lives(), [(FLOWS[0], LIFE, 9), (FLOW, LIVES[0], 9), (FLOW, LIFE, 1)])

    def test_the_receiver_is_another_birth(self):
        for receiver in ((1, 1), (1, 3), PEER, THIRD):
            self.changes_nothing([TABLE], hand(receiver=receiver))

    def test_the_sender_is_dead(self):
        for before in ([], holder(epoch=1), holder(epoch=5)):
            self.changes_nothing(before + [DEATH], hand(epoch=3, sender=THIRD))
        for sender in ((3, 2), (3, 3)):
            self.answers([DEATH], hand(sender=sender), [answer_of(1, sender=sender)])

    def test_the_handed_birth_may_be_any(self):
        agent = agent_with(hand(ELSEWHERE, (5, 1000000, 1000000), 2))
        self.assertEqual(agent.lives(), [(ELSEWHERE, (5, 1000000, 1000000), 2)])


class HandedTest(AgentCase):
    def test_it_was_handed_on(self):
        for sender in (THIRD, PEER, (3, 9)):
            agent = self.answers(freezer() + freezer(FLOWS[0], LIFE, 1, PEER, 2), handed(sender=sender), [])
            self.assertEqual(agent.frozen(), [(FLOWS[0], LIFE, 1, PEER)])
            self.assertIsNone(agent.eaten_of(FLOW, LIFE))
            self.assertEqual(agent.tick()[-1], (CONTROLLER, ("held", ME, 1)))
            self.assertEqual(reported(agent), ((FLOWS[0], LIFE, 1, PEER), (FLOW, LIFE, 1, THIRD)))

    def test_it_does_not_fit(self):
        for message in (handed(0), handed(2), handed(flow=FLOWS[0]), handed(life=LIVES[0]), handed(receiver=(1, 1)),
                        handed(receiver=(1, 3)), handed(receiver=THIRD)):
            for before in ([], freezer(), holder(), hander(), ender()):
                self.changes_nothing(before, message)

    def test_it_is_not_frozen(self):
        for before in ([], holder(), hander(), ender()):
            self.changes_nothing(before, handed())


class EndedLifeTest(AgentCase):
    def test_the_epoch_with_which_it_was_held(self):
        for epoch in (0, 1, 1000000):
            agent = agent_with(*ender(epoch=epoch), TABLE)
            self.assertEqual(agent.lives(), [])
            self.assertEqual(notices(agent), [to(FOURTH, ("ended", ME, FLOW, LIFE, epoch))])
            self.assertEqual(agent.tick()[-1], (CONTROLLER, ("held", ME, 0)))
            self.assertEqual(reported(agent), ((FLOW, LIFE, epoch, None),))


class NoticeTest(AgentCase):
    def test_it_is_told_until_it_is_noted(self):
        for before, message in ((holder(), ("moved", ME, FLOW, LIFE, 1, ME)), (ender(), ("ended", ME, FLOW, LIFE, 1))):
            agent = agent_with(*before, TABLE)
            for _ in range(3):
                self.assertEqual(notices(agent), [to(FOURTH, message)])
            self.assertEqual(agent.receive(("noted", ME, FLOW, LIFE, 1)), [])
            self.assertEqual(notices(agent), [])

    def test_a_later_notice_takes_the_place_of_an_earlier_one(self):
        agent = agent_with(hand(epoch=1), hand(epoch=4), TABLE)
        self.assertEqual(notices(agent), [to(FOURTH, ("moved", ME, FLOW, LIFE, 4, ME))])
        agent.receive(wrap(no_of(FLOW, LIFE)))
        self.assertEqual(notices(agent), [to(FOURTH, ("ended", ME, FLOW, LIFE, 4))])
        agent.receive(hand(epoch=5))
        self.assertEqual(notices(agent), [to(FOURTH, ("moved", ME, FLOW, LIFE, 5, ME))])

    def test_notices_of_other_lives_stay(self):
        agent = agent_with(hand(FLOW, LIFE), hand(FLOW, LIVES[2]), hand(FLOWS[0], LIFE), TABLE)
        agent.receive(wrap(no_of(FLOW, LIFE)))
        self.assertEqual(notices(agent), [
            to(FOURTH, ("moved", ME, FLOWS[0], LIFE, 1, ME)), to(FOURTH, ("ended", ME, FLOW, LIFE, 1)),
            to(FOURTH, ("moved", ME, FLOW, LIVES[2], 1, ME))])

    def test_a_notice_to_itself(self):
        row = (FLOW, LIFE, 1, THIRD)
        agent = agent_with(grant((row,)), TABLE, hand(epoch=4))
        self.assertEqual(agent.directory(10), ((FLOW, LIFE, 4, ME),))
        self.assertEqual(notices(agent), [])
        agent.receive(wrap(no_of(FLOW, LIFE)))
        self.assertEqual(agent.directory(10), ())
        self.assertEqual(notices(agent), [])

    def test_a_notice_to_itself_that_does_not_fit(self):
        for row in ((FLOW, LIFE, 4, THIRD), (FLOW, LIFE, 9, THIRD), (FLOW, LIVES[2], 0, THIRD), (FLOWS[0], LIFE, 0, ME)):
            agent = agent_with(grant((row,)), TABLE, hand(epoch=4))
            self.assertEqual(agent.directory(10), (row,))
            self.assertEqual(notices(agent), [])
        # A row is removed whatever its epoch, but only that of this life.
        for row, left in (((FLOW, LIFE, 9, THIRD), ()), ((FLOW, LIVES[2], 0, THIRD), ((FLOW, LIVES[2], 0, THIRD),))):
            agent = agent_with(hand(epoch=4), grant((row,)), wrap(no_of(FLOW, LIFE)))
            self.assertEqual(agent.directory(10), left)

    def test_an_earlier_notice_is_not_told_behind_one_to_itself(self):
        agent = agent_with(hand(epoch=4), grant(), wrap(no_of(FLOW, LIFE)), ("give", ME, 10, 6, THIRD))
        self.assertEqual(notices(agent), [])


class MovedTest(AgentCase):
    def noted(self, epoch, sender=PEER, flow=FLOW, life=LIFE):
        return [to(sender, ("noted", sender, flow, life, epoch))]

    def test_a_lesser_epoch_of_the_row(self):
        rows = ((FLOWS[0], LIFE, 0, THIRD), (FLOW, LIFE, 3, THIRD), (FLOWS[4], LIFE, 0, THIRD))
        for epoch in (4, 5, 1000000):
            for place in (PEER, ME, FOURTH):
                agent = self.answers([grant(rows)], ("moved", PEER, FLOW, LIFE, epoch, place), self.noted(epoch))
                self.assertEqual(agent.directory(10), (rows[0], (FLOW, LIFE, epoch, place), rows[2]))

    def test_it_does_not_fit(self):
        others = ((FLOW, LIVES[2], 0, THIRD), (FLOWS[0], LIFE, 0, THIRD))
        for row in ((FLOW, LIFE, 3, THIRD), (FLOW, LIFE, 4, THIRD)) + others:
            for epoch in (0, 2, 3):
                self.changes_nothing([grant((row,))], ("moved", PEER, FLOW, LIFE, epoch, PEER), self.noted(epoch))
        self.changes_nothing([grant()], ("moved", PEER, FLOW, LIFE, 3, PEER), self.noted(3))

    def test_ended(self):
        rows = ((FLOWS[0], LIFE, 0, THIRD), (FLOW, LIFE, 3, THIRD), (FLOWS[4], LIFE, 0, THIRD))
        for epoch in (0, 2, 3, 4, 1000000):
            agent = self.answers([grant(rows)], ("ended", PEER, FLOW, LIFE, epoch), self.noted(epoch))
            self.assertEqual(agent.directory(10), (rows[0], rows[2]))

    def test_ended_does_not_fit(self):
        for row in ((FLOW, LIVES[2], 0, THIRD), (FLOWS[0], LIFE, 0, THIRD)):
            self.changes_nothing([grant((row,))], ("ended", PEER, FLOW, LIFE, 3), self.noted(3))
        self.changes_nothing([grant()], ("ended", PEER, FLOW, LIFE, 3), self.noted(3))

    def test_the_sender_is_dead(self):
        for before in ([grant(((FLOW, LIFE, 1, PEER),)), DEATH], giver(PEER) + [DEATH], [DEATH]):
            for message in (("moved", THIRD, FLOW, LIFE, 3, PEER), ("ended", THIRD, FLOW, LIFE, 3)):
                self.changes_nothing(before, message)
        for sender in ((3, 2), (3, 3)):
            self.answers(
                [grant(), DEATH], ("moved", sender, FLOW, LIFE, 3, sender), self.noted(3, sender))
            self.answers([grant(), DEATH], ("ended", sender, FLOW, LIFE, 3), self.noted(3, sender))
            self.answers(
                giver(PEER) + [DEATH], ("ended", sender, FLOW, LIFE, 3), [to(PEER, ("ended", sender, FLOW, LIFE, 3))])

    def test_a_place_that_is_dead_is_not_asked(self):
        agent = self.answers(
            [grant(((FLOW, LIFE, 1, PEER),)), DEATH], ("moved", PEER, FLOW, LIFE, 3, THIRD), self.noted(3))
        self.assertEqual(agent.directory(10), ((FLOW, LIFE, 3, THIRD),))

    def test_the_bucket_was_given_away(self):
        for message in (("moved", PEER, FLOW, LIFE, 3, PEER), ("ended", PEER, FLOW, LIFE, 3)):
            self.changes_nothing(giver(), message, [to(THIRD, message)])
            self.changes_nothing(giver() + [DEATH], message)
            self.changes_nothing(giver(bucket=5), message)
            # Neither the table nor what it knows of the life tells where the creator is.
            for before in ([], [TABLE], holder(), hander(), ender()):
                self.changes_nothing(before, message)

    def test_lives_of_its_own_stay(self):
        for before in (holder(), freezer(), hander(), ender()):
            for message in (("moved", PEER, FLOW, LIFE, 9, PEER), ("ended", PEER, FLOW, LIFE, 9)):
                self.changes_nothing(before + [grant()], message, self.noted(9))


class NotedTest(AgentCase):
    def test_it_fits(self):
        before = holder(FLOWS[0]) + ender() + [TABLE]
        agent = self.answers(before, ("noted", ME, FLOW, LIFE, 1), [])
        self.assertEqual(notices(agent), [to(FOURTH, ("moved", ME, FLOWS[0], LIFE, 1, ME))])
        agent = self.answers(before, ("noted", ME, FLOWS[0], LIFE, 1), [])
        self.assertEqual(notices(agent), [to(FOURTH, ("ended", ME, FLOW, LIFE, 1))])

    def test_it_does_not_fit(self):
        for before in (holder(), ender()):
            for message in (("noted", ME, FLOW, LIFE, 0), ("noted", ME, FLOW, LIFE, 2), ("noted", ME, FLOWS[0], LIFE, 1),
                            ("noted", ME, FLOW, LIVES[2], 1), ("noted", (1, 1), FLOW, LIFE, 1),
                            ("noted", (1, 3), FLOW, LIFE, 1), ("noted", PEER, FLOW, LIFE, 1)):
                self.changes_nothing(before + [TABLE], message)
                self.changes_nothing([TABLE], message)

    def test_an_earlier_epoch_is_noted(self):
        before = [hand(epoch=1), hand(epoch=4), TABLE]
        self.changes_nothing(before, ("noted", ME, FLOW, LIFE, 1))

    def test_the_life_stays(self):
        agent = agent_with(*holder(), ("noted", ME, FLOW, LIFE, 1))
        self.assertEqual(agent.lives(), [(FLOW, LIFE, 1)])
        self.assertEqual(agent.receive(wrap(up_of(FLOW, LIFE, (3,)))), [])
        self.assertEqual(agent.eaten_of(FLOW, LIFE), (3,))


if __name__ == "__main__":
    unittest.main()
