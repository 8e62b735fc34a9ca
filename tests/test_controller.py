"""Points 700 and 704 to 709: the controller."""

import unittest

from heldflows.controller import Controller, GAP, PLAN
from heldflows.errors import BadCall
from heldflows.messages import is_message
from strange import Plain, STRANGE

A, B, C = (0, 1), (1, 1), (2, 1)
FLOW = (1, 7)
LIFE = (0, 1, 4)


def to(birth, message):
    return ("agent", birth[0]), message


def born(birth):
    return ("born", birth)


def report(birth, bucket, version=1, rows=()):
    return ("report", birth, bucket, version, rows)


def owns(birth, bucket, version=2):
    return ("owns", birth, bucket, version)


def controller_with(*messages, muxes=1):
    """Returns a controller that has received these messages."""
    controller = Controller(muxes)
    for message in messages:
        controller.receive(message)
    return controller


def granted_to(*births):
    """Returns messages: the births are known, in ascending order, and all buckets are granted with the version 2."""
    return [born(birth) for birth in births] + [report(births[0], bucket) for bucket in range(16)]


def settled_with(*births):
    """Returns messages: all buckets are settled with the version 2, in turn with each of the births."""
    found = granted_to(*births)
    return found + [owns(births[bucket % len(births)], bucket) for bucket in range(16)]


def given(controller):
    """Returns what a tick tells to give, as a dict from buckets to triples of giver, version and receiver."""
    return {message[2]: (message[1], message[3], message[4]) for _, message in controller.tick() if message[0] == "give"}


def plan(controller):
    """Tells a controller all ticks in front of its next plan; it has been told none or a multiple of 8."""
    for _ in range(PLAN - 1):
        controller.tick()
    return controller


def shown(controller):
    """Returns all that a controller shows, now and at the next plan; it is changed by that."""
    seen = []
    for _ in range(PLAN):
        seen.append(controller.births())
        seen.append([(controller.phase(bucket), controller.version(bucket)) for bucket in range(16)])
        seen.append((controller.table(), controller.pushes()))
        seen.append(controller.tick())
    return seen


class ControllerCase(unittest.TestCase):
    def changes_nothing(self, before, message, sent=()):
        """The controller that has received `before` answers the message so, and is not changed by it."""
        controller = controller_with(*before)
        self.assertEqual(controller.receive(message), list(sent), message)
        self.assertEqual(shown(controller), shown(controller_with(*before)), message)

    def answers(self, before, message, sent):
        """The controller that has received `before` answers the message so; it is returned."""
        controller = controller_with(*before)
        self.assertEqual(controller.receive(message), list(sent), message)
        return controller

    def phases(self, controller, expected):
        self.assertEqual([controller.phase(bucket) for bucket in range(16)], expected)

    def versions(self, controller, expected):
        self.assertEqual([controller.version(bucket) for bucket in range(16)], expected)


class NewTest(ControllerCase):
    def test_numbers(self):
        self.assertEqual((PLAN, GAP), (8, 4))

    def test_it_knows_nobody(self):
        for muxes in (1, 2, 3):
            controller = Controller(muxes)
            self.assertEqual((controller.births(), controller.table(), controller.pushes()), ((), (), []))
            self.phases(controller, ["empty"] * 16)
            self.versions(controller, [0] * 16)
            for _ in range(20):
                self.assertEqual(controller.tick(), [])

    def test_wishes_that_are_none(self):
        controller = controller_with(*settled_with(A, B))
        for agent, word in ((6, "drain"), (-1, "drain"), (True, "serve"), (None, "serve"), (0, "stop"), (0, None)):
            with self.assertRaises(BadCall):
                controller.wish(agent, word)
        self.assertEqual(shown(controller), shown(controller_with(*settled_with(A, B))))
        self.assertIsNone(controller.wish(5, "drain"))


class BornTest(ControllerCase):
    def test_the_first_one_recovers_all(self):
        controller = self.answers([], born(B), [to(B, ("births", (B,)))])
        self.phases(controller, ["recovering"] * 16)
        self.versions(controller, [1] * 16)
        self.assertEqual(controller.tick(), [to(B, ("stop", bucket, 1, (B,))) for bucket in range(16)])

    def test_further_agents_recover_nothing(self):
        controller = controller_with(born(B))
        self.assertEqual(controller.receive(born(C)), [to(C, ("births", (B, C)))])
        self.assertEqual(controller.receive(born(A)), [to(A, ("births", (A, B, C)))])
        self.versions(controller, [1] * 16)
        # Only those are waited for that were alive when the buckets were recovered.
        self.assertEqual(controller.tick(), [to(B, ("stop", bucket, 1, (B,))) for bucket in range(16)])
        for before in (granted_to(B), settled_with(B)):
            controller = self.answers(before, born(A), [to(A, ("births", (A, B)))])
            self.versions(controller, [2] * 16)

    def test_the_same_birth_again(self):
        for before in ([born(A), born(B)], granted_to(A, B), settled_with(A, B)):
            self.changes_nothing(before, born(A), [to(A, ("births", (A, B)))])
            self.changes_nothing(before, born(B), [to(B, ("births", (A, B)))])

    def test_a_birth_that_is_not_later_lets_pushes_and_numbers_be(self):
        for birth in (A, B):
            before = settled_with(A, B, C) + [("held", A, 9), ("held", C, 5)]
            self.changes_nothing(before, born(birth), [to(birth, ("births", (A, B, C)))])
            controller = plan(controller_with(*before))
            controller.tick()
            controller.receive(born(birth))
            self.assertEqual(controller.pushes(), [(1, A, 4, B)])
        self.changes_nothing(settled_with((0, 2), B) + [("held", (0, 2), 9)], born(A))

    def test_a_later_birth_recovers_all(self):
        later = (1, 5)
        for before, version in (([born(A), born(B)], 1), (granted_to(A, B), 2), (settled_with(A, B), 2)):
            controller = self.answers(before, born(later), [to(later, ("births", (A, later)))])
            self.assertEqual(controller.births(), (A, later))
            self.phases(controller, ["recovering"] * 16)
            self.versions(controller, [version + 1] * 16)
            stops = [message for message in controller.tick() if message[1][0] == "stop"]
            expected = []
            for bucket in range(16):
                stop = ("stop", bucket, version + 1, (A, later))
                expected += [to(A, stop), to(later, stop)]
            self.assertEqual(stops, expected)

    def test_a_lesser_birth(self):
        before = [born((1, 5)), born(A)]
        for birth in ((1, 1), (1, 4)):
            self.changes_nothing(before, born(birth))
        self.changes_nothing(settled_with(A, (1, 5)), born((1, 4)))

    def test_what_was_told_of_held_flows_is_forgotten(self):
        before = settled_with(A, B) + [("held", A, 9), ("held", B, 0), born((0, 2))]
        before += [report((0, 2), bucket, 3) for bucket in range(16)] + [report(B, bucket, 3) for bucket in range(16)]
        controller = plan(controller_with(*before))
        controller.tick()
        self.assertEqual(controller.pushes(), [])
        controller.receive(("held", (0, 2), 9))
        plan(controller).tick()
        self.assertEqual(controller.pushes(), [(1, (0, 2), 4, B)])

    def test_pushes_of_or_to_the_former_birth_are_forgotten(self):
        for giver, receiver in ((A, B), (B, A)):
            before = settled_with(A, B, C) + [("held", giver, 9), ("held", C, 5), ("held", receiver, 0)]
            for later, left in (((0, 2), []), ((1, 2), []), ((2, 2), [(1, giver, 4, receiver)])):
                controller = plan(controller_with(*before))
                controller.tick()
                self.assertEqual(controller.pushes(), [(1, giver, 4, receiver)])
                controller.receive(born(later))
                self.assertEqual(controller.pushes(), left)
                pushes = [message for _, message in controller.tick() if message[0] == "push"]
                self.assertEqual(pushes, [("push", giver, 1, 4, receiver)][:len(left)])


class ReportTest(ControllerCase):
    def test_all_have_reported(self):
        controller = controller_with(born(A), born(B), born((0, 2)))
        self.versions(controller, [2] * 16)
        self.assertEqual(controller.receive(report(B, 3, 2)), [])
        self.assertEqual((controller.phase(3), controller.version(3)), ("recovering", 2))
        stops = [pair for pair in controller.tick() if pair[1][1] == 3]
        self.assertEqual(stops, [to((0, 2), ("stop", 3, 2, ((0, 2), B)))])
        self.assertEqual(controller.receive(report((0, 2), 3, 2)), [])
        self.assertEqual((controller.phase(3), controller.version(3)), ("granting", 3))
        self.assertEqual(controller.table(), ())
        self.phases(controller, ["recovering"] * 3 + ["granting"] + ["recovering"] * 12)

    def test_reports_that_do_not_count(self):
        before = [born(A), born(B), born((0, 2)), report(B, 3, 2)]
        for message in (report((0, 2), 3, 1), report((0, 2), 3, 3), report((0, 2), 3, 0), report(B, 3, 2),
                        report(A, 3, 2), report((0, 3), 3, 2), report(C, 3, 2)):
            self.changes_nothing(before, message)
        # Births that were told later are not waited for.
        self.changes_nothing([born(A), born(C)], report(C, 3, 1))

    def test_the_first_report_of_a_birth_counts(self):
        row, other = ((FLOW, LIFE, 3, B),), ((FLOW, LIFE, 4, B),)
        before = [born(A), born(B), born((0, 2)), born(C), report(B, 3, 2, row)]
        for late in (report(B, 3, 2, other), report(B, 3, 1, other), report(C, 3, 2, other)):
            controller = controller_with(*before, late, report((0, 2), 3, 2))
            self.assertIn(to((0, 2), ("grant", None, (0, 2), 3, 3, row)), controller.tick())

    def test_other_phases(self):
        for before in (granted_to(A, B), settled_with(A, B)):
            for version in (0, 1, 2, 3):
                self.changes_nothing(before, report(A, 3, version, ((FLOW, LIFE, 3, A),)))
        controller = controller_with(*settled_with(A), born(B))
        self.assertEqual(len(given(plan(controller))), 8)
        self.assertEqual(controller.receive(report(A, 0, 3)), [])
        self.assertEqual((controller.phase(0), controller.version(0)), ("giving", 3))

    def test_buckets_go_to_the_candidates_in_turn(self):
        controller = controller_with(*granted_to(A, B, C))
        grants = [message for message in controller.tick() if message[1][0] == "grant"]
        births = (A, B, C)
        self.assertEqual(grants, [
            to(births[bucket % 3], ("grant", None, births[bucket % 3], bucket, 2, ())) for bucket in range(16)])

    def test_the_candidate_with_the_least_load(self):
        controller = controller_with(born(A), report(A, 5), report(A, 9), report(A, 2), born(B), owns(A, 9))
        controller.receive(born(C))
        receivers = []
        for bucket in (0, 15, 1, 7, 3, 4, 14):
            controller.receive(report(A, bucket))
            receivers.append([
                message[2] for _, message in controller.tick() if message[0] == "grant" and message[3] == bucket][0])
        # The agent A has the load 3 from the beginning.
        self.assertEqual(receivers, [B, C, B, C, B, C, A])

    def test_agents_that_do_not_serve_get_nothing(self):
        controller = controller_with(born(A), born(B), born(C))
        controller.wish(0, "drain")
        controller.wish(2, "drain")
        for bucket in range(8):
            controller.receive(report(A, bucket))
        controller.wish(1, "drain")
        # Nobody serves: all agents with a known birth are candidates.
        for bucket in range(8, 16):
            controller.receive(report(A, bucket))
        receivers = [message[2] for _, message in controller.tick() if message[0] == "grant"]
        self.assertEqual(receivers, [B] * 8 + [A, C, A, C, A, C, A, C])

    def test_the_directory(self):
        later = (0, 2)
        rows = ((FLOW, LIFE, 3, B), ((2, 12), LIFE, 1, A), ((0, 2), LIFE, 5, C))
        others = ((FLOW, LIFE, 4, later), ((2, 12), (0, 1, 9), 0, B), ((0, 2), LIFE, 5, None), ((3, 1), LIFE, 0, C))
        # C was told behind the recovery; it is alive when the directory is made.
        before = [born(A), born(B), born(later), born(C), report(B, 3, 2, rows)]
        controller = controller_with(*before, report(later, 3, 2, others))
        directory = ((FLOW, LIFE, 4, later), ((2, 12), (0, 1, 9), 0, B), ((3, 1), LIFE, 0, C))
        self.assertIn(to(later, ("grant", None, later, 3, 3, directory)), controller.tick())

    def test_the_order_of_the_reports(self):
        for births in ((B, (0, 2)), ((0, 2), B)):
            found = {B: ((FLOW, LIFE, 3, B),), (0, 2): ((FLOW, LIFE, 3, (0, 2)),)}
            controller = controller_with(born(A), born(B), born((0, 2)))
            for birth in births:
                controller.receive(report(birth, 3, 2, found[birth]))
            grants = [message for _, message in controller.tick() if message[0] == "grant"]
            self.assertEqual(grants, [("grant", None, (0, 2), 3, 3, found[births[0]])])

    def test_reports_of_a_former_recovery_are_forgotten(self):
        rows = ((FLOW, LIFE, 3, B),)
        controller = controller_with(born(A), born(B), born((0, 2)), report(B, 3, 2, rows), born((0, 3)))
        controller.receive(report(B, 3, 3, ()))
        controller.receive(report((0, 3), 3, 3, ()))
        self.assertIn(to((0, 3), ("grant", None, (0, 3), 3, 4, ())), controller.tick())


class OwnsTest(ControllerCase):
    def known(self, birth, bucket, version):
        return [to(birth, ("known", birth, bucket, version))]

    def test_granted(self):
        controller = self.answers(granted_to(A, B), owns(B, 3), self.known(B, 3, 2))
        self.phases(controller, ["granting"] * 3 + ["settled"] + ["granting"] * 12)
        self.assertEqual(controller.table(), ((3, 2, B),))
        self.assertEqual(controller.version(3), 2)
        controller.receive(owns(A, 0))
        self.assertEqual(controller.table(), ((0, 2, A), (3, 2, B)))

    def test_given(self):
        controller = plan(controller_with(*settled_with(A), born(B)))
        controller.tick()
        self.assertEqual((controller.phase(0), controller.version(0)), ("giving", 3))
        self.assertEqual(controller.table()[0], (0, 2, A))
        self.assertEqual(controller.receive(owns(B, 0, 3)), self.known(B, 0, 3))
        self.assertEqual((controller.phase(0), controller.version(0)), ("settled", 3))
        self.assertEqual(controller.table()[0], (0, 3, B))

    def test_given_and_it_does_not_fit(self):
        for message in (owns(A, 0, 2), owns(A, 0, 3), owns(B, 0, 2), owns(B, 0, 4), owns(B, 15, 3)):
            controller = plan(controller_with(*settled_with(A), born(B)))
            controller.tick()
            other = plan(controller_with(*settled_with(A), born(B)))
            other.tick()
            self.assertEqual(controller.receive(message), self.known(message[1], message[2], message[3]))
            self.assertEqual(shown(controller), shown(other))

    def test_it_does_not_fit(self):
        for before in ([born(A), born(B)], granted_to(A, B), settled_with(A, B)):
            for message in (owns(A, 3, 2), owns(B, 3, 1), owns(B, 3, 3), owns(B, 3, 0), owns(A, 3, 1)):
                self.changes_nothing(before, message, self.known(message[1], 3, message[3]))

    def test_settled_again(self):
        self.changes_nothing(settled_with(A, B), owns(B, 3), self.known(B, 3, 2))

    def test_births_that_are_not_alive(self):
        for birth in ((0, 2), C, (1, 9)):
            self.changes_nothing(granted_to(A, B), owns(birth, 3))
        self.changes_nothing(granted_to(A, B) + [born((1, 2))], owns(B, 3))

    def test_the_table_keeps_the_last_settled_row(self):
        controller = controller_with(*settled_with(A, B), born((1, 2)))
        self.assertEqual(controller.table(), tuple((bucket, 2, (A, B)[bucket % 2]) for bucket in range(16)))
        for birth in (A, (1, 2)):
            controller.receive(report(birth, 3, 3))
        self.assertEqual(controller.table()[3], (3, 2, B))
        controller.receive(owns(A, 3, 4))
        self.assertEqual(controller.table()[3], (3, 4, A))


class PushedAndHeldTest(ControllerCase):
    def test_pushed(self):
        before = settled_with(A, B) + [("held", A, 9)]
        for message, left in ((("pushed", A, 1), 0), (("pushed", B, 1), 1), (("pushed", A, 2), 1), (("pushed", A, 0), 1),
                              (("pushed", (0, 2), 1), 1), (("pushed", C, 1), 1)):
            controller = plan(controller_with(*before))
            controller.tick()
            self.assertEqual(controller.receive(message), [])
            self.assertEqual(len(controller.pushes()), left)
            self.assertEqual(len([1 for _, sent in controller.tick() if sent[0] == "push"]), left)

    def test_a_push_that_was_forgotten_is_not_made_again_before_the_next_plan(self):
        controller = plan(controller_with(*settled_with(A, B), ("held", A, 9)))
        controller.tick()
        controller.receive(("pushed", A, 1))
        controller.receive(("pushed", A, 1))
        for _ in range(7):
            controller.tick()
            self.assertEqual(controller.pushes(), [])
        controller.tick()
        self.assertEqual(controller.pushes(), [(2, A, 4, B)])

    def test_held(self):
        for messages, pushes in (
                ([("held", A, 9)], [(1, A, 4, B)]), ([("held", A, 9), ("held", A, 3)], []),
                ([("held", A, 3), ("held", A, 4)], [(1, A, 2, B)]), ([("held", (0, 2), 9)], []),
                ([("held", C, 9)], []), ([("held", A, 9), ("held", B, 9)], []),
                ([("held", A, 1000000)], [(1, A, 500000, B)])):
            controller = controller_with(*settled_with(A, B))
            for message in messages:
                self.assertEqual(controller.receive(message), [])
            plan(controller).tick()
            self.assertEqual(controller.pushes(), pushes)


class TickTest(ControllerCase):
    def test_the_order_of_what_is_sent(self):
        controller = controller_with(*settled_with(A, B, C), ("held", A, 9), ("held", B, 3), ("held", C, 4), muxes=2)
        rows = tuple((bucket, 2, (A, B, C)[bucket % 3]) for bucket in range(16))
        tables = [(address, ("table", rows)) for address in (
            ("mux", 0), ("mux", 1), ("agent", 0), ("agent", 1), ("agent", 2))]
        for _ in range(7):
            self.assertEqual(controller.tick(), tables)
        controller.wish(2, "drain")
        gives = []
        for bucket, receiver in ((2, B), (5, A), (8, B), (11, A), (14, B)):
            gives.append(to(C, ("give", C, bucket, 3, receiver)))
        pushes = [to(C, ("push", C, 1, 4, B))]
        for _ in range(2):
            self.assertEqual(controller.tick(), gives + pushes + tables)

    def test_each_phase_is_told_in_ascending_order_of_the_buckets(self):
        controller = controller_with(born(A), born(B), born((0, 2)))
        for bucket in (9, 1):
            controller.receive(report((0, 2), bucket, 2))
        for bucket in (1, 12, 0):
            controller.receive(report(B, bucket, 2))
        for bucket in (0, 12):
            controller.receive(report((0, 2), bucket, 2))
        controller.receive(owns((0, 2), 12, 3))
        births = ((0, 2), B)
        # The bucket 1 was granted first, then 0 and 12; the bucket 12 is settled.
        stops = {}
        for bucket in range(16):
            stop = ("stop", bucket, 2, births)
            stops[bucket] = [to((0, 2), stop), to(B, stop)]
        stops[9] = [to(B, ("stop", 9, 2, births))]
        stops[12] = []
        expected = [to(B, ("grant", None, B, 0, 3, ())), to((0, 2), ("grant", None, (0, 2), 1, 3, ()))]
        for bucket in range(2, 16):
            expected += stops[bucket]
        table = ("table", ((12, 3, (0, 2)),))
        self.assertEqual(controller.tick(), expected + [(("mux", 0), table), to((0, 2), table), to(B, table)])

    def test_it_sends_again_until_it_is_answered(self):
        controller = controller_with(born(A))
        for _ in range(20):
            self.assertEqual(controller.tick(), [to(A, ("stop", bucket, 1, (A,))) for bucket in range(16)])
        for bucket in range(16):
            controller.receive(report(A, bucket))
        for _ in range(20):
            self.assertEqual(controller.tick(), [to(A, ("grant", None, A, bucket, 2, ())) for bucket in range(16)])
        for bucket in range(16):
            controller.receive(owns(A, bucket))
        table = ("table", tuple((bucket, 2, A) for bucket in range(16)))
        for _ in range(20):
            self.assertEqual(controller.tick(), [(("mux", 0), table), to(A, table)])

    def test_tables_with_some_rows(self):
        for muxes in (1, 2, 3):
            controller = controller_with(*granted_to(A, C), owns(C, 5), owns(A, 2), muxes=muxes)
            table = ("table", ((2, 2, A), (5, 2, C)))
            expected = [(("mux", mux), table) for mux in range(muxes)] + [to(A, table), to(C, table)]
            self.assertEqual(controller.tick()[-len(expected):], expected)
            self.assertEqual(len(controller.tick()), 14 + len(expected))

    def test_tables_go_to_agents_that_do_not_serve(self):
        controller = controller_with(*settled_with(A, B))
        controller.wish(1, "drain")
        self.assertEqual([address for address, _ in controller.tick()], [("mux", 0), ("agent", 0), ("agent", 1)])


class PlanTest(ControllerCase):
    def owned(self, controller):
        """Settles what is given, and returns the number of buckets of each agent in the table."""
        for bucket, (_, version, receiver) in given(controller).items():
            controller.receive(owns(receiver, bucket, version))
        births = [birth for _, _, birth in controller.table()]
        return {birth: births.count(birth) for birth in births}

    def test_every_eighth_tick(self):
        controller = controller_with(*settled_with(A), born(B))
        for tick in range(1, 8):
            self.assertEqual(given(controller), {}, tick)
        self.assertEqual(given(controller), {bucket: (A, 3, B) for bucket in range(8)})
        controller.receive(born(C))
        for bucket in range(8):
            controller.receive(owns(B, bucket, 3))
        for tick in range(9, 16):
            self.assertEqual(given(controller), {}, tick)
        self.assertEqual(given(controller), {8: (A, 3, C), 0: (B, 4, C), 9: (A, 3, C), 1: (B, 4, C), 10: (A, 3, C)})
        for tick in range(17, 24):
            self.assertEqual(len(given(controller)), 5)

    def test_ticks_are_counted_whatever_is_known(self):
        controller = Controller(1)
        for _ in range(13):
            controller.tick()
        for message in settled_with(A) + [born(B)]:
            controller.receive(message)
        for tick in (14, 15):
            self.assertEqual(given(controller), {}, tick)
        self.assertEqual(len(given(controller)), 8)

    def test_equal_loads(self):
        for births in ((A,), (A, B), (A, B, C), (A, B, C, (3, 1), (4, 1)), (A, B, C, (3, 1), (4, 1), (5, 1))):
            controller = plan(controller_with(*settled_with(*births)))
            self.assertEqual(given(controller), {})
            self.versions(controller, [2] * 16)

    def test_a_difference_of_one_and_of_two(self):
        before = [born(A), born(B)] + [report(A, bucket) for bucket in range(16)]
        # All but one or two of the buckets are settled with their births; the others are still granted.
        for late in ((), (0,), (0, 2), (1, 15)):
            messages = [owns((A, B)[bucket % 2], bucket) for bucket in range(16) if bucket not in late]
            self.assertEqual(given(plan(controller_with(*before, *messages))), {})
        controller = controller_with(born(A))
        for bucket in range(9):
            controller.receive(report(A, bucket))
        controller.receive(born(B))
        for bucket in range(9, 16):
            controller.receive(report(A, bucket))
        for bucket in range(16):
            controller.receive(owns(A if bucket < 9 else B, bucket))
        self.assertEqual(given(plan(controller)), {0: (A, 3, B)})

    def test_loads_count_what_is_granted_and_given(self):
        controller = controller_with(*granted_to(A), born(B))
        for bucket in (4, 9, 12):
            controller.receive(owns(A, bucket))
        # Only settled buckets can be given, though A has the load 16.
        self.assertEqual(given(plan(controller)), {bucket: (A, 3, B) for bucket in (4, 9, 12)})
        controller.receive(owns(A, 5))
        self.assertEqual(given(plan(controller)), {bucket: (A, 3, B) for bucket in (4, 5, 9, 12)})

    def test_agents_without_a_settled_bucket_do_not_hinder(self):
        # A has the greatest load, but none of its buckets is settled.
        controller = controller_with(born(A))
        for bucket in range(10):
            controller.receive(report(A, bucket))
        controller.receive(born(B))
        for bucket in range(10, 16):
            controller.receive(report(A, bucket))
            controller.receive(owns(B, bucket))
        controller.receive(born(C))
        self.assertEqual(given(plan(controller)), {bucket: (B, 3, C) for bucket in (10, 11, 12)})

    def test_among_equals_the_least_number(self):
        controller = controller_with(*settled_with(A, B), born(C), born((3, 1)))
        expected = {}
        for bucket, receiver in ((0, C), (1, (3, 1)), (2, C), (3, (3, 1)), (4, C), (5, (3, 1)), (6, C), (7, (3, 1))):
            expected[bucket] = ((A, B)[bucket % 2], 3, receiver)
        self.assertEqual(given(plan(controller)), expected)

    def test_one_that_drains(self):
        controller = controller_with(*settled_with(A, B, C))
        controller.wish(1, "drain")
        self.assertEqual(given(plan(controller)), {
            1: (B, 3, C), 4: (B, 3, A), 7: (B, 3, C), 10: (B, 3, A), 13: (B, 3, C)})
        self.assertEqual(self.owned(controller), {A: 8, C: 8})
        controller.wish(1, "serve")
        controller.wish(0, "drain")
        controller.wish(2, "drain")
        plan(controller)
        self.assertEqual(self.owned(controller), {B: 16})

    def test_buckets_that_are_not_settled_are_not_given(self):
        controller = controller_with(*granted_to(A, B), owns(B, 5))
        controller.wish(1, "drain")
        self.assertEqual(given(plan(controller)), {5: (B, 3, A)})
        controller = controller_with(*settled_with(A, B), born((1, 2)))
        controller.wish(0, "drain")
        self.assertEqual(given(plan(controller)), {})

    def test_nobody_serves(self):
        controller = controller_with(*settled_with(A, B), born(C), ("held", A, 20))
        for agent in range(3):
            controller.wish(agent, "drain")
        self.assertEqual(given(plan(controller)), {})
        self.assertEqual(controller.pushes(), [])
        controller.wish(5, "serve")
        self.assertEqual(given(plan(controller)), {})
        self.assertEqual(controller.pushes(), [])

    def test_no_agent_is_known(self):
        controller = Controller(1)
        for _ in range(24):
            self.assertEqual(controller.tick(), [])


class PushesTest(ControllerCase):
    def pushes(self, numbers, drained=(), controller=None):
        """Returns the pushes behind the next plan, with these numbers of held flows of the agents from 0 on."""
        if controller is None:
            births = [(agent, 1) for agent in range(len(numbers))]
            controller = controller_with(*settled_with(*births))
        for agent, number in enumerate(numbers):
            if number is not None:
                controller.receive(("held", (agent, 1), number))
        for agent in drained:
            controller.wish(agent, "drain")
        plan(controller).tick()
        return controller.pushes()

    def test_the_gap(self):
        for numbers, pushes in (
                ((0, 0), []), ((3, 0), []), ((4, 0), [(1, A, 2, B)]), ((0, 4), [(1, B, 2, A)]), ((9, 4), [(1, A, 2, B)]),
                ((5, 10), [(1, B, 2, A)]), ((4, 1), []), ((100, 97), []), ((11, 0), [(1, A, 5, B)]), ((7,), []),
                ((None, 4), [(1, B, 2, A)]), ((None, None), [])):
            self.assertEqual(self.pushes(numbers), pushes, numbers)

    def test_among_equals_the_least_agent(self):
        self.assertEqual(self.pushes((8, 8, 0, 0)), [(1, A, 4, C)])
        self.assertEqual(self.pushes((0, 8, 0, 8)), [(1, B, 4, A)])
        self.assertEqual(self.pushes((5, 8, 1, 6)), [(1, B, 3, C)])

    def test_one_that_drains(self):
        self.assertEqual(self.pushes((3, 2, 2), [0]), [(1, A, 3, B)])
        self.assertEqual(self.pushes((3, 2, 1), [0]), [(1, A, 3, C)])
        self.assertEqual(self.pushes((1, 2), [0]), [(1, A, 1, B)])
        self.assertEqual(self.pushes((0, 2), [0]), [])
        self.assertEqual(self.pushes((None, 2), [0]), [])

    def test_several_that_drain(self):
        # The agent that gets the first push is passed over for the second one.
        self.assertEqual(self.pushes((3, 1, 2, 0, 5), [0, 2]), [(1, A, 3, (3, 1)), (2, C, 2, B)])
        self.assertEqual(self.pushes((3, 1, 2), [0, 2]), [(1, A, 3, B)])
        self.assertEqual(self.pushes((0, 1, 2), [0, 2]), [(1, C, 2, B)])

    def test_drained_ones_come_before_the_gap(self):
        self.assertEqual(self.pushes((3, 1, 9, 4), [0]), [(1, A, 3, B), (2, C, 2, (3, 1))])
        self.assertEqual(self.pushes((3, 1, 9), [0]), [(1, A, 3, B)])
        self.assertEqual(self.pushes((3, 1, 7, 4), [0]), [(1, A, 3, B)])
        # The number of an agent that does not serve is not looked at there.
        self.assertEqual(self.pushes((0, 5, 7), [0]), [])

    def test_agents_from_or_to_which_a_push_is_under_way_are_passed_over(self):
        controller = controller_with(*settled_with(*[(agent, 1) for agent in range(5)]))
        first = (1, (4, 1), 5, A)
        self.assertEqual(self.pushes((0, 1, 2, 3, 10), (), controller), [first])
        self.assertEqual(self.pushes((0, 1, 2, 3, 10), (), controller), [first])
        second = (2, (3, 1), 4, B)
        self.assertEqual(self.pushes((0, 1, 2, 9, 30), (), controller), [first, second])
        self.assertEqual(self.pushes((0, 1, 50, 9, 30), (), controller), [first, second])
        controller.receive(("pushed", (4, 1), 1))
        third = (3, C, 25, A)
        self.assertEqual(self.pushes((0, 1, 50, 9, 30), (), controller), [second, third])

    def test_an_agent_that_drains_is_passed_over_likewise(self):
        controller = controller_with(*settled_with(A, B, C))
        first = (1, A, 4, B)
        self.assertEqual(self.pushes((9, 0, 5), (), controller), [first])
        # A gives and B gets already.
        self.assertEqual(self.pushes((9, 0, 5), [0], controller), [first])
        self.assertEqual(self.pushes((9, 2, 5), [1], controller), [first])
        controller.receive(("pushed", A, 1))
        self.assertEqual(self.pushes((5, 4, 5), (), controller), [(2, A, 5, C)])

    def test_orders_over_all_plans(self):
        controller = controller_with(*settled_with(A, B))
        for order in range(1, 5):
            numbers = (9, 0) if order % 2 == 1 else (0, 9)
            giver, receiver = (A, B) if order % 2 == 1 else (B, A)
            self.assertEqual(self.pushes(numbers, (), controller), [(order, giver, 4, receiver)])
            controller.receive(("pushed", giver, order))

    def test_only_agents_with_a_known_birth_take_part(self):
        controller = controller_with(*settled_with(B, (3, 1)))
        self.assertEqual(self.pushes((None, 9, None, 1), [5], controller), [(1, B, 4, (3, 1))])

    def test_pushes_are_sent_at_each_tick_in_ascending_order(self):
        controller = controller_with(*settled_with(A, B, C, (3, 1)))
        self.assertEqual(self.pushes((8, 0, 2, 9), [0], controller), [(1, A, 8, B), (2, (3, 1), 3, C)])
        for _ in range(3):
            pushes = [pair for pair in controller.tick() if pair[1][0] == "push"]
            self.assertEqual(pushes, [to(A, ("push", A, 1, 8, B)), to((3, 1), ("push", (3, 1), 2, 3, C))])

    def test_pushes_are_made_while_buckets_are_recovered(self):
        controller = controller_with(born(A), born(B), ("held", A, 6))
        plan(controller).tick()
        self.assertEqual(controller.pushes(), [(1, A, 3, B)])


class NoMessagesTest(ControllerCase):
    before = settled_with(A, B) + [("held", A, 9)]

    def test_values_of_any_kind(self):
        controller = controller_with(*self.before)
        for value in STRANGE:
            self.assertEqual(controller.receive(value), [])
        self.assertEqual(shown(controller), shown(controller_with(*self.before)))

    def test_messages_to_others(self):
        controller = controller_with(*self.before)
        for value in (("births", (A,)), ("table", ((3, 9, A),)), ("known", A, 3, 2), ("open", FLOW),
                      ("stop", 3, 9, (A,)), ("hello", FLOW, LIFE)):
            self.assertEqual(controller.receive(value), [])
        self.assertEqual(shown(controller), shown(controller_with(*self.before)))

    def test_messages_with_one_part_spoilt(self):
        for before in ([born(A), born(B)], granted_to(A, B), self.before):
            controller = controller_with(*before)
            for message in (born((0, 2)), report(A, 3, 1, ((FLOW, LIFE, 3, A),)), owns(B, 3), ("pushed", A, 1),
                            ("held", A, 2)):
                for at in range(len(message)):
                    for part in (True, -1, 10 ** 7, "", "x", (0,), ((0,),), (True, 1), (0, 0), [], {}, 1.0, Plain()):
                        self.assertEqual(controller.receive(message[:at] + (part,) + message[at + 1:]), [])
                    self.assertEqual(controller.receive(message[:at] + message[at + 1:]), [])
                for value in (list(message), message + (0,), message + message, (message,)):
                    self.assertEqual(controller.receive(value), [])
            self.assertEqual(shown(controller), shown(controller_with(*before)))

    def test_births_that_are_not_alive(self):
        for birth in ((0, 2), (0, 3), C, (1, 2)):
            for before in ([born(A), born(B)], granted_to(A, B), self.before, [born((0, 9)), born((1, 9))]):
                for message in (report(birth, 3), owns(birth, 3), ("pushed", birth, 1), ("held", birth, 50)):
                    self.changes_nothing(before, message)
        for message in (report(A, 3), owns(A, 3), ("pushed", A, 1), ("held", A, 50)):
            self.changes_nothing([], message)


class ListsTest(ControllerCase):
    def test_lists_that_are_returned_are_new(self):
        controller = plan(controller_with(*settled_with(A, B), born(C), ("held", A, 9)))
        controller.tick()
        before = controller.pushes()
        controller.pushes().clear()
        controller.pushes().append(1)
        self.assertEqual(controller.pushes(), before)
        before = controller.tick()
        controller.tick().clear()
        controller.tick().append(1)
        self.assertEqual(controller.tick(), before)
        for message in (None, born(A), owns(A, 0), ("held", A, 9), ("pushed", B, 9), report(A, 0)):
            before = controller.receive(message)
            controller.receive(message).append(1)
            self.assertEqual(controller.receive(message), before)

    def test_kinds_of_values(self):
        controller = plan(controller_with(*settled_with(A, B), born(C), ("held", A, 9)))
        for found in (controller.tick(), controller.pushes(), controller.receive(born(A)), controller.receive(None)):
            self.assertIs(type(found), list)
            for row in found:
                self.assertIs(type(row), tuple)
        for found in (controller.births(), controller.table(), controller.table()[0], controller.births()[0]):
            self.assertIs(type(found), tuple)
        self.assertIs(type(controller.phase(0)), str)
        self.assertIs(type(controller.version(0)), int)

    def test_messages_are_messages(self):
        rows = ((FLOW, LIFE, 3, A),)
        for before in ([born(A), born(B), report(A, 3, 1, rows)], settled_with(A, B) + [born(C), ("held", A, 9)]):
            controller = controller_with(*before)
            sent = controller.receive(born(B)) + controller.receive(owns(A, 3))
            for _ in range(PLAN):
                sent += controller.tick()
            for address, message in sent:
                self.assertTrue(is_message(address, message), (address, message))


class PlaceTest(unittest.TestCase):
    def test_names_are_defined_in_their_file(self):
        self.assertEqual(Controller.__module__, "heldflows.controller")
        for name in ("receive", "tick", "wish", "births", "phase", "version", "table", "pushes"):
            self.assertIn(name, vars(Controller))


if __name__ == "__main__":
    unittest.main()
