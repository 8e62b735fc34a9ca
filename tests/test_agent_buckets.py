"""Points 604 to 608: giving buckets, births, and stopping."""

import unittest

from agents import (
    AgentCase, CONTROLLER, ELSEWHERE, FLOW, FLOWS, FOURTH, LIFE, LIVES, ME, PEER, THIRD, agent_with, ender, freezer,
    giver, grant, hand, hander, holder, no_of, open_of, reported, to, up_of, wrap)

DEATH = ("births", ((3, 2),))
ROWS = ((FLOWS[0], LIFE, 0, ME), (FLOWS[2], LIVES[2], 4, PEER), (FLOWS[4], LIVES[3], 9, THIRD))


def give(version=6, receiver=THIRD, bucket=10, mine=ME):
    return ("give", mine, bucket, version, receiver)


def of_word(agent, word):
    """Returns what an agent sends at a tick that begins with the word."""
    return [pair for pair in agent.tick() if pair[1][0] == word]


def corrections():
    """Returns triples of messages, a row, and the row as the agent corrects it, or None if it is left out."""
    for epoch in (1, 5, 9):
        row = (FLOW, LIFE, epoch, FOURTH)
        yield [], row, row
        yield holder(FLOW, LIVES[2], 9), row, row
        yield holder(FLOWS[3], LIFE, 9), row, row
        yield holder(epoch=5), row, (FLOW, LIFE, 5, ME) if epoch < 5 else row
        yield freezer(epoch=5), row, (FLOW, LIFE, 5, THIRD) if epoch < 5 else row
        yield hander(epoch=5), row, (FLOW, LIFE, 5, THIRD) if epoch < 5 else row
        # What is dead is corrected like the others.
        yield hander(epoch=5) + [DEATH], row, (FLOW, LIFE, 5, THIRD) if epoch < 5 else row
        yield ender(epoch=5), row, row if epoch > 5 else None


class GiveTest(AgentCase):
    def test_a_greater_version(self):
        for version in (6, 7, 1000000):
            for receiver in (THIRD, PEER, (0, 1)):
                agent = self.answers([grant(ROWS)], give(version, receiver), [])
                self.assertEqual(agent.creates(), [])
                self.assertIsNone(agent.directory(10))
                told = to(receiver, ("grant", ME, receiver, 10, version, ROWS))
                for _ in range(2):
                    self.assertEqual(of_word(agent, "grant"), [told])
                self.assertEqual(of_word(agent, "owns"), [])

    def test_versions_that_are_not_greater(self):
        for version in (0, 4, 5):
            self.changes_nothing([grant(ROWS)], give(version))

    def test_the_giver_is_another_birth(self):
        for other in ((1, 1), (1, 3), PEER, THIRD):
            self.changes_nothing([grant(ROWS)], give(mine=other))

    def test_it_is_not_the_creator(self):
        for before in ([], [grant(ROWS, bucket=5)], giver(PEER), [grant(ROWS), ("stop", 10, 5, (ME,)), give(6, PEER)],
                       [grant(ROWS), ("stop", 10, 6, (ME,))]):
            self.changes_nothing(before, give(9))

    def test_receivers_that_are_none(self):
        for receiver in (ME, (1, 1), (1, 3)):
            self.changes_nothing([grant(ROWS)], give(receiver=receiver))
        self.changes_nothing([grant(ROWS), DEATH], give(receiver=THIRD))
        self.changes_nothing([grant(ROWS), ("births", (ME, (3, 1000000)))], give(receiver=(3, 999999)))

    def test_receivers_of_which_it_was_not_told_dead(self):
        for receiver in ((3, 2), (3, 3), (2, 1)):
            agent = self.answers([grant(ROWS), DEATH], give(receiver=receiver), [])
            self.assertEqual(of_word(agent, "grant"), [to(receiver, ("grant", ME, receiver, 10, 6, ROWS))])

    def test_the_pointer(self):
        agent = self.answers([grant()], give(), [])
        self.assertEqual(agent.receive(wrap(open_of(FLOW))), [to(THIRD, wrap(open_of(FLOW), 7))])

    def test_the_directory_as_it_is_now(self):
        before = [grant(ROWS[1:]), wrap(open_of(FLOWS[3])), wrap(open_of(FLOWS[0])),
                  ("moved", PEER, FLOWS[3], (1, 2, 1), 2, PEER), ("ended", PEER, FLOWS[2], LIVES[2], 4)]
        agent = self.answers(before, give(), [])
        rows = ((FLOWS[0], (1, 2, 2), 0, ME), (FLOWS[3], (1, 2, 1), 2, PEER), (FLOWS[4], LIVES[3], 9, THIRD))
        self.assertEqual(of_word(agent, "grant"), [to(THIRD, ("grant", ME, THIRD, 10, 6, rows))])

    def test_the_directory_is_corrected(self):
        for before, row, corrected in corrections():
            # A life that ends here while this birth is the creator has its row removed, whatever the epochs.
            kept = None if before == ender(epoch=5) else corrected
            agent = agent_with(grant((ROWS[0], row, ROWS[2])), *before, give(6, PEER))
            expected = tuple(found for found in (ROWS[0], kept, ROWS[2]) if found is not None)
            self.assertEqual(of_word(agent, "grant"), [to(PEER, ("grant", ME, PEER, 10, 6, expected))])

    def test_a_life_that_was_pushed_is_corrected(self):
        before = [grant(), wrap(open_of(FLOW)), wrap(open_of(FLOWS[0])), ("push", ME, 1, 1, PEER)]
        agent = agent_with(*before)
        self.assertEqual(agent.directory(10), ((FLOWS[0], (1, 2, 2), 0, ME), (FLOW, (1, 2, 1), 0, ME)))
        agent.receive(give())
        rows = ((FLOWS[0], (1, 2, 2), 1, PEER), (FLOW, (1, 2, 1), 0, ME))
        self.assertEqual(of_word(agent, "grant"), [to(THIRD, ("grant", ME, THIRD, 10, 6, rows))])

    def test_several_buckets(self):
        agent = agent_with(grant(), grant((), 7, 3), grant((), 2, 15), give(8, THIRD, 3), give(9, PEER, 10))
        self.assertEqual(agent.creates(), [(15, 2)])
        self.assertEqual(of_word(agent, "grant"), [
            to(THIRD, ("grant", ME, THIRD, 3, 8, ())), to(PEER, ("grant", ME, PEER, 10, 9, ()))])
        self.assertEqual(of_word(agent, "owns"), [(CONTROLLER, ("owns", ME, 15, 2))])


class GrantTest(AgentCase):
    def test_a_greater_version(self):
        for version in (1, 2, 1000000):
            for sender in (None, PEER, (2, 9), (1, 3)):
                for rows in ((), ROWS[:1], ROWS, ROWS[::-1]):
                    agent = agent_with()
                    message = grant(rows, version, sender=sender)
                    answer = [] if sender is None else [to(sender, ("granted", ME, sender, 10, version))]
                    self.assertEqual(agent.receive(message), answer)
                    self.assertEqual(agent.creates(), [(10, version)])
                    self.assertEqual(agent.directory(10), tuple(sorted(rows)))
                    for _ in range(2):
                        self.assertEqual(of_word(agent, "owns"), [(CONTROLLER, ("owns", ME, 10, version))])

    def test_versions_that_are_not_greater(self):
        for version in (0, 4, 5):
            for before in ([grant(ROWS)], giver(PEER), [("stop", 10, 5, (ME,))]):
                for sender in (None, PEER):
                    answer = [] if sender is None else [to(sender, ("granted", ME, sender, 10, version))]
                    self.changes_nothing(before, grant((), version, sender=sender), answer)
        self.changes_nothing([], grant(ROWS, 0))
        self.changes_nothing([], grant(ROWS, 0, sender=PEER), [to(PEER, ("granted", ME, PEER, 10, 0))])

    def test_the_receiver_is_another_birth(self):
        for receiver in ((1, 1), (1, 3), PEER, THIRD):
            for sender in (None, PEER):
                self.changes_nothing([], grant(ROWS, sender=sender, receiver=receiver))

    def test_the_sender_is_dead(self):
        for version in (1, 5, 9):
            self.changes_nothing([grant(ROWS), DEATH], grant((), version, sender=THIRD))
        for sender in ((3, 2), (3, 3)):
            agent = self.answers([DEATH], grant(ROWS, sender=sender), [to(sender, ("granted", ME, sender, 10, 5))])
            self.assertEqual(agent.directory(10), ROWS)

    def test_the_directory_is_corrected(self):
        for before, row, corrected in corrections():
            for sender in (None, PEER):
                agent = agent_with(*before, grant((ROWS[0], row, ROWS[2]), sender=sender))
                expected = tuple(found for found in (ROWS[0], corrected, ROWS[2]) if found is not None)
                self.assertEqual(agent.directory(10), expected)

    def test_a_directory_is_replaced(self):
        agent = agent_with(grant(ROWS), wrap(open_of(FLOWS[1])), ("known", ME, 10, 5), grant(ROWS[:1], 6))
        self.assertEqual(agent.directory(10), ROWS[:1])
        self.assertEqual(agent.creates(), [(10, 6)])
        self.assertEqual(of_word(agent, "owns"), [(CONTROLLER, ("owns", ME, 10, 6))])

    def test_the_pointer_and_the_grant_are_forgotten(self):
        agent = agent_with(grant(), give(6, THIRD), grant((), 7, sender=PEER))
        self.assertEqual(of_word(agent, "grant"), [])
        # It is the creator and forgets it again, so that only the pointer could tell where the bucket is.
        agent = agent_with(grant(), give(6, THIRD), grant((), 7), ("stop", 10, 8, (ME,)))
        self.assertEqual(agent.receive(wrap(open_of(FLOW))), [])

    def test_the_known_version_is_the_one_of_the_grant(self):
        self.changes_nothing([grant((), 7), ("stop", 10, 8, (ME,))], grant((), 8))
        self.assertEqual(agent_with(grant((), 7), ("stop", 10, 8, (ME,)), grant((), 9)).creates(), [(10, 9)])


class GrantedTest(AgentCase):
    def test_it_fits(self):
        agent = self.answers([grant(), give()], ("granted", THIRD, ME, 10, 6), [])
        self.assertEqual(of_word(agent, "grant"), [])
        # The pointer stays.
        self.assertEqual(agent.receive(wrap(open_of(FLOW))), [to(THIRD, wrap(open_of(FLOW), 7))])

    def test_whoever_sends_it(self):
        for sender in (PEER, (3, 9)):
            self.assertEqual(of_word(agent_with(grant(), give(), DEATH, ("granted", sender, ME, 10, 6)), "grant"), [])

    def test_it_does_not_fit(self):
        for message in (("granted", THIRD, ME, 10, 5), ("granted", THIRD, ME, 10, 7), ("granted", THIRD, ME, 9, 6),
                        ("granted", THIRD, (1, 1), 10, 6), ("granted", THIRD, (1, 3), 10, 6),
                        ("granted", THIRD, THIRD, 10, 6)):
            self.changes_nothing([grant(), give()], message)
            self.changes_nothing([], message)
        for before in ([], [grant()], giver(version=6)):
            self.changes_nothing(before, ("granted", THIRD, ME, 10, 6))


class KnownTest(AgentCase):
    def test_it_fits(self):
        agent = self.answers([grant(ROWS), grant((), 5, 5)], ("known", ME, 10, 5), [])
        self.assertEqual(of_word(agent, "owns"), [(CONTROLLER, ("owns", ME, 5, 5))])
        self.assertEqual(agent.creates(), [(5, 5), (10, 5)])
        self.assertEqual(agent.directory(10), ROWS)

    def test_it_does_not_fit(self):
        for message in (("known", ME, 10, 4), ("known", ME, 10, 6), ("known", ME, 9, 5), ("known", (1, 1), 10, 5),
                        ("known", (1, 3), 10, 5), ("known", PEER, 10, 5)):
            self.changes_nothing([grant()], message)
            self.changes_nothing([], message)
        for before in ([], giver(version=5), [grant(), ("known", ME, 10, 5)]):
            self.changes_nothing(before, ("known", ME, 10, 5))


class BirthsTest(AgentCase):
    def is_dead(self, before, birth):
        """Tells whether the agent takes a birth for dead, as point 613 shows it."""
        agent = agent_with(grant(), *before)
        return agent.receive(("moved", birth, FLOW, LIFE, 1, birth)) == []

    def test_at_first_it_knows_its_own_birth_alone(self):
        for agent in range(6):
            self.assertIs(self.is_dead([], (agent, 1)), agent == 1)
        self.assertFalse(self.is_dead([], (1, 2)))
        self.assertFalse(self.is_dead([], (1, 3)))

    def test_the_greater_one_is_kept(self):
        for messages in ([("births", ((3, 4), (2, 2)))], [("births", ((2, 2), (3, 1), (3, 4), (3, 2)))],
                         [("births", ((3, 4),)), ("births", ((2, 2), (3, 3)))],
                         [("births", ((3, 2),)), ("births", ((3, 4), (2, 2)))]):
            for birth, expected in (((3, 1), True), ((3, 3), True), ((3, 4), False), ((3, 5), False), ((2, 1), True),
                                    ((2, 2), False), ((4, 1), False), (ME, False)):
                self.assertIs(self.is_dead(messages, birth), expected, (messages, birth))

    def test_a_greater_birth_of_its_own_agent(self):
        self.assertTrue(self.is_dead([("births", ((1, 3),))], ME))
        self.assertFalse(self.is_dead([("births", ((1, 1),))], ME))

    def test_nothing_is_sent(self):
        for births in ((), (ME,), ((3, 2), (2, 9))):
            self.answers(freezer(), ("births", births), [])

    def test_frozen_lives_that_are_handed_to_a_dead_birth(self):
        before = freezer() + freezer(FLOWS[0], order=2, receiver=PEER) + freezer(FLOWS[4], LIFE, 3, order=3)
        agent = self.answers(before, DEATH, [])
        self.assertEqual(agent.frozen(), [(FLOWS[0], LIFE, 1, PEER)])
        self.assertIsNone(agent.eaten_of(FLOW, LIFE))
        rows = ((FLOWS[0], LIFE, 1, PEER), (FLOW, LIFE, 1, THIRD), (FLOWS[4], LIFE, 3, THIRD))
        self.assertEqual(reported(agent), rows)

    def test_they_are_handed_on_then(self):
        # Rule 4 asks whether the birth is dead, rule 2 does not.
        self.assertEqual(agent_with(*freezer(), DEATH).receive(wrap(up_of(FLOW, LIFE))), [])
        agent = agent_with(*freezer(), *giver(PEER), DEATH)
        self.assertEqual(agent.receive(wrap(up_of(FLOW, LIFE))), [to(PEER, wrap(up_of(FLOW, LIFE), 7))])

    def test_frozen_lives_that_are_handed_to_others(self):
        for births in (((3, 1),), ((2, 9), (4, 9), (5, 9)), (), ((1, 3),)):
            agent = self.answers(freezer(), ("births", births), [])
            self.assertEqual(agent.frozen(), [(FLOW, LIFE, 1, THIRD)])

    def test_born(self):
        self.assertEqual(of_word(agent_with(), "born"), [(CONTROLLER, ("born", ME))])
        for births in ((), (PEER, THIRD), ((1, 1),), ((1, 3),)):
            self.assertEqual(of_word(agent_with(("births", births)), "born"), [(CONTROLLER, ("born", ME))])
        for births in ((ME,), (PEER, ME), ((1, 1), ME, (1, 3))):
            agent = agent_with(("births", births))
            self.assertEqual(of_word(agent, "born"), [])
            agent.receive(("births", (PEER,)))
            self.assertEqual(of_word(agent, "born"), [])


class StopTest(AgentCase):
    def test_a_report_of_nothing(self):
        for version in (0, 1, 1000000):
            message = ("stop", 10, version, (ME, PEER))
            self.answers([], message, [(CONTROLLER, ("report", ME, 10, version, ()))])

    def test_the_effect_of_births(self):
        for version in (4, 5, 6):
            for births in ((ME, (3, 2)), ((3, 2),), ((3, 2), (1, 3))):
                agent = agent_with(*freezer(), grant(), ("stop", 10, version, births))
                self.assertEqual(agent.frozen(), [])
                self.assertEqual(agent.receive(grant((), 9, sender=THIRD)), [])
                self.assertEqual(of_word(agent, "born"), [] if ME in births else [(CONTROLLER, ("born", ME))])

    def test_this_birth_is_not_among_them(self):
        for births in ((), (PEER,), ((1, 1), (1, 3))):
            for version in (0, 5, 9):
                agent = self.answers([grant(ROWS)], ("stop", 10, version, births), [])
                self.assertEqual(agent.creates(), [(10, 5)])
                self.assertEqual(agent.directory(10), ROWS)
                # The known version is what it was.
                self.assertEqual(agent.receive(("stop", 10, 4, (ME,))), [])

    def test_the_known_version_is_greater(self):
        for before in ([grant(ROWS)], giver(PEER), [("stop", 10, 5, (ME,))]):
            for version in (0, 4):
                self.changes_nothing(before + [("births", (ME,))], ("stop", 10, version, (ME,)))

    def test_the_known_version_is_equal(self):
        for before in ([grant(ROWS)], giver(PEER), [("stop", 10, 5, (ME,))], [grant(), give(5)]):
            report = (CONTROLLER, ("report", ME, 10, 5, ()))
            self.changes_nothing(before + [("births", (ME,))], ("stop", 10, 5, (ME,)), [report])

    def test_the_known_version_is_less(self):
        for version in (6, 1000000):
            agent = self.answers(
                [grant(ROWS)], ("stop", 10, version, (ME,)), [(CONTROLLER, ("report", ME, 10, version, ()))])
            self.assertEqual(agent.creates(), [])
            self.assertIsNone(agent.directory(10))
            self.assertEqual(of_word(agent, "owns"), [])
            self.assertEqual(agent.receive(grant((), version)), [])
            self.assertEqual(agent.creates(), [])
            agent.receive(grant((), version + 1) if version < 1000000 else ("births", ()))
            self.assertEqual(agent.creates(), [(10, 7)] if version == 6 else [])

    def test_the_pointer_and_the_grant_are_forgotten(self):
        agent = agent_with(grant(), give(6), ("stop", 10, 7, (ME,)))
        self.assertEqual(of_word(agent, "grant"), [])
        self.assertEqual(agent.receive(wrap(open_of(FLOW))), [])

    def test_other_buckets_stay(self):
        agent = agent_with(
            grant(), grant((), 5, 5), grant((), 4, 9), give(6, THIRD, 9), ("stop", 10, 8, (ME,)))
        self.assertEqual(agent.creates(), [(5, 5)])
        self.assertEqual(of_word(agent, "grant"), [to(THIRD, ("grant", ME, THIRD, 9, 6, ()))])
        self.assertEqual(of_word(agent, "owns"), [(CONTROLLER, ("owns", ME, 5, 5))])

    def test_lives_and_notices_stay(self):
        before = holder() + ender(FLOWS[0], LIFE, 3) + [("table", ((10, 1, THIRD),))]
        agent = agent_with(*before, ("stop", 10, 7, (ME,)))
        self.assertEqual(agent.lives(), [(FLOW, LIFE, 1)])
        self.assertEqual([message for _, message in agent.tick() if message[0] in ("moved", "ended")], [
            ("ended", ME, FLOWS[0], LIFE, 3), ("moved", ME, FLOW, LIFE, 1, ME)])

    def test_the_report_is_ascending_and_of_all_lives_of_the_bucket(self):
        before = []
        expected = []
        # One life at a time is held, so that each push takes the right one.
        for order, flow in enumerate((FLOWS[3], FLOWS[0], FLOWS[4]), start=1):
            before += freezer(flow, LIVES[2], order, THIRD, 3 * order) + hander(flow, LIVES[1], 7, PEER, 3 * order + 1)
            before += ender(flow, LIVES[0], 2)
            expected += [(flow, LIVES[0], 2, None), (flow, LIVES[1], 7, PEER), (flow, LIVES[2], order, THIRD)]
        before += [hand(flow, LIVES[3], 9) for flow in (FLOWS[4], FLOWS[0], FLOWS[3])]
        expected += [(flow, LIVES[3], 9, ME) for flow in (FLOWS[4], FLOWS[0], FLOWS[3])]
        before += holder(ELSEWHERE, LIFE, 4)
        agent = agent_with(*before)
        for _ in range(2):
            self.assertEqual(agent.receive(("stop", 10, 3, (ME,))), [
                (CONTROLLER, ("report", ME, 10, 3, tuple(sorted(expected, key=lambda row: row[:2]))))])
        self.assertEqual(agent.receive(("stop", 5, 3, (ME,))), [
            (CONTROLLER, ("report", ME, 5, 3, ((ELSEWHERE, LIFE, 4, ME),)))])
        self.assertEqual(agent.receive(("stop", 11, 3, (ME,))), [(CONTROLLER, ("report", ME, 11, 3, ()))])

    def test_rows_of_the_directory_are_not_reported(self):
        agent = agent_with(grant(ROWS), wrap(open_of(FLOWS[1])), wrap(open_of(FLOWS[3])))
        agent.receive(wrap(no_of(FLOWS[3], (1, 2, 2))))
        self.assertEqual(reported(agent), ((FLOWS[1], (1, 2, 1), 0, ME), (FLOWS[3], (1, 2, 2), 0, None)))


if __name__ == "__main__":
    unittest.main()
