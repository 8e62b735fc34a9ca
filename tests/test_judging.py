"""Points 900 to 910: the judge."""

import unittest

from answers import answers_to
from heldflows import judging
from heldflows.judging import (
    back_fault, creator_fault, eaten_fault, gone_fault, holder_fault, judge, life_fault, stream_fault)
from heldflows.schedules import run

FUNCTIONS = [holder_fault, creator_fault, life_fault, eaten_fault, stream_fault, gone_fault, back_fault]
LIFE, OTHER, THIRD = (0, 1, 1), (1, 1, 1), (1, 1, 2)
WRITTEN = (10, 255, 7)


def flow(number=1, life=LIFE, written=WRITTEN, closed=0, read=(), state="open"):
    return number, life, written, closed, read, state


def agent(birth, held=(), frozen=(), buckets=()):
    return birth, tuple(held), tuple(frozen), tuple(buckets)


def row(name, life=LIFE, eaten=(), epoch=0):
    return name, life, epoch, eaten


def picture(clients=(), agents=()):
    return 0, tuple(tuple(flows) for flows in clients), tuple(agents)


# A picture without a fault, with two flows of each of two clients.
GOOD = picture(
    [[flow(1, LIFE), flow(2, None, (), 0, (), "opening")],
     [flow(1, OTHER, (1, 2), 1, answers_to((1, 1), (1, 2)), "ended"), flow(2, THIRD, (5,), 0, (), "gone")]],
    [agent((0, 1), [row((0, 1), LIFE, (10, 255))], [row((1, 1), OTHER, (1, 2), 3)], (0, 3, 4)),
     agent((1, 1), [row((0, 2), (1, 1, 9))], [], (1, 2, 5))])


class JudgeCase(unittest.TestCase):
    def finds(self, function, bad, parts, before=GOOD, after=GOOD):
        """The function finds the fault in a picture between others, wherever it stands; the others find none."""
        kind = parts[0]
        for pictures in ([bad], [bad, bad], [bad, after]):
            self.only(function, pictures, (kind, 0) + parts[1:])
        for front in range(1, 4):
            for behind in range(3):
                self.only(function, [before] * front + [bad] + [after] * behind, (kind, front) + parts[1:])

    def only(self, function, pictures, fault):
        self.assertEqual(function(pictures), fault)
        self.assertIs(type(function(pictures)), tuple)
        # Pictures that are put together for one kind of fault may go back from one to the next.
        for other in FUNCTIONS[:6]:
            if other is not function:
                self.assertIsNone(other(pictures), (other, pictures))
        self.assertIn(fault, judge(pictures))


class NoFaultTest(JudgeCase):
    def test_no_pictures(self):
        for function in FUNCTIONS:
            self.assertIsNone(function([]))
        self.assertEqual(judge([]), [])

    def test_pictures_without_a_fault(self):
        for pictures in ([picture()], [GOOD], [GOOD] * 5, [picture(), GOOD, GOOD]):
            for function in FUNCTIONS:
                self.assertIsNone(function(pictures))
            self.assertEqual(judge(pictures), [])

    def test_pictures_of_a_world(self):
        pictures = run("world 2 3 2\nopen 0\nopen 1\nwrite 0 1 1,2,3\nround 12\nstop 1\nround 3\nclose 0 1\nround 9")
        for function in FUNCTIONS:
            self.assertIsNone(function(pictures))
        self.assertEqual(judge(pictures), [])


class HolderTest(JudgeCase):
    clients = [[flow(1), flow(2, OTHER)], [flow(1, THIRD)]]

    def pictured(self, first, second, third=()):
        agents = [agent((0, 1), first), agent((1, 4), second), agent((5, 2), third)]
        return picture(self.clients, agents)

    def test_two_agents_hold_a_life(self):
        for name, life in (((0, 1), LIFE), ((0, 2), OTHER), ((1, 1), THIRD)):
            held = [row(name, life)]
            fault = ("holders", name, life)
            self.finds(holder_fault, self.pictured(held, held), fault)
            self.finds(holder_fault, self.pictured((), held, held), fault)
            self.finds(holder_fault, self.pictured(held, (), held), fault)
            self.finds(holder_fault, self.pictured(held, held, held), fault)

    def test_the_epochs_and_the_bytes_are_not_asked(self):
        self.finds(
            holder_fault, self.pictured([row((0, 1), LIFE, (10,), 4)], [row((0, 1), LIFE, (), 9)]),
            ("holders", (0, 1), LIFE))

    def test_the_least_one_counts(self):
        one, two, three = row((0, 1)), row((0, 2), OTHER), row((1, 1), THIRD)
        self.finds(holder_fault, self.pictured([two, three], [one, two, three], [one]), ("holders", (0, 1), LIFE))
        self.finds(holder_fault, self.pictured([two, three], [one, two, three]), ("holders", (0, 2), OTHER))
        # Of two lives of a flow the lesser one counts.
        both = [row((0, 1), (0, 1, 10)), row((0, 1), (0, 1, 9)), row((0, 1), (1, 1, 1))]
        for held in (both, both[::-1]):
            pictures = [self.pictured(held, held)]
            self.assertEqual(holder_fault(pictures), ("holders", 0, (0, 1), (0, 1, 9)))

    def test_the_first_picture_counts(self):
        one, two = [row((0, 1))], [row((0, 2), OTHER)]
        pictures = [GOOD, self.pictured(two, two), self.pictured(one, one)]
        self.assertEqual(holder_fault(pictures), ("holders", 1, (0, 2), OTHER))

    def test_no_fault(self):
        frozen = picture(self.clients, [agent((0, 1), [row((0, 1))]), agent((1, 1), [], [row((0, 1))])])
        both = picture(self.clients, [agent((0, 1), [], [row((0, 1))]), agent((1, 1), [], [row((0, 1))])])
        # A life is named by its flow, too.
        names = self.pictured([row((0, 1), LIFE)], [row((0, 2), LIFE)])
        for good in (frozen, both, names, self.pictured([row((0, 1))], [row((0, 2), OTHER)])):
            self.assertIsNone(holder_fault([good]))


class CreatorTest(JudgeCase):
    def pictured(self, *buckets):
        return picture(agents=[agent((number, 1), (), (), some) for number, some in enumerate(buckets)])

    def test_two_agents_are_creators(self):
        for bucket in range(16):
            for bad in (self.pictured((bucket,), (bucket,)), self.pictured((), (bucket,), (), (bucket,)),
                        self.pictured((bucket,), (bucket,), (bucket,))):
                self.finds(creator_fault, bad, ("creators", bucket))

    def test_the_least_one_counts(self):
        self.finds(creator_fault, self.pictured((1, 9, 11), (2, 9, 11)), ("creators", 9))
        self.finds(creator_fault, self.pictured((11,), (9, 11), (2, 9), (2,)), ("creators", 2))
        self.finds(creator_fault, self.pictured((10,), (9, 10), (9,)), ("creators", 9))

    def test_the_first_picture_counts(self):
        pictures = [self.pictured((1,)), self.pictured((9,), (9,)), self.pictured((2,), (2,))]
        self.assertEqual(creator_fault(pictures), ("creators", 1, 9))

    def test_no_fault(self):
        for good in (self.pictured(), self.pictured(()), self.pictured(tuple(range(16)), ()),
                     self.pictured((0, 2, 4), (1, 3), (15,))):
            self.assertIsNone(creator_fault([good]))


class LifeTest(JudgeCase):
    clients = [[flow(1), flow(2, OTHER)], [flow(1, THIRD)]]

    def pictured(self, *held):
        return picture(self.clients, [agent((number, 1), rows) for number, rows in enumerate(held)])

    def test_two_lives_of_a_flow(self):
        for name in ((0, 1), (0, 2), (1, 1)):
            one, two = row(name, LIFE), row(name, THIRD)
            for bad in (self.pictured([one], [two]), self.pictured([one, two]), self.pictured([], [one, two]),
                        self.pictured([two], [], [one])):
                self.finds(life_fault, bad, ("lives", name))

    def test_lives_of_one_birth(self):
        self.finds(life_fault, self.pictured([row((0, 1), (0, 1, 1)), row((0, 1), (0, 1, 2))]), ("lives", (0, 1)))

    def test_the_least_one_counts(self):
        held = [row((1, 1), LIFE), row((0, 2), LIFE)], [row((0, 2), OTHER), row((1, 1), OTHER)]
        self.finds(life_fault, self.pictured(*held), ("lives", (0, 2)))

    def test_the_first_picture_counts(self):
        pictures = [self.pictured([row((1, 1)), row((1, 1), OTHER)]), self.pictured([row((0, 1)), row((0, 1), OTHER)])]
        self.assertEqual(life_fault(pictures), ("lives", 0, (1, 1)))

    def test_no_fault(self):
        frozen = picture(self.clients, [agent((0, 1), [row((0, 1))], [row((0, 1), OTHER)]), agent((1, 1))])
        same = self.pictured([row((0, 1))], [row((0, 1))])
        for good in (frozen, same, self.pictured([row((0, 1), LIFE), row((0, 2), OTHER)], [row((1, 1), THIRD)])):
            self.assertIsNone(life_fault([good]))


class EatenTest(JudgeCase):
    clients = [[flow(1), flow(2, OTHER)], [flow(1, THIRD)]]

    def test_what_was_not_written(self):
        for eaten in ((11,), (10, 254), (255,), (10, 255, 7, 0), (10, 255, 7, 10, 255, 7), (255, 10)):
            for life in (LIFE, OTHER):
                for held, frozen in (([row((0, 1), life, eaten)], []), ([], [row((0, 1), life, eaten)])):
                    for agents in ([agent((0, 1), held, frozen)], [agent((0, 1)), agent((1, 1), held, frozen)]):
                        self.finds(eaten_fault, picture(self.clients, agents), ("eaten", (0, 1)))

    def test_there_is_no_such_flow(self):
        for name in ((0, 3), (1, 2), (2, 1), (5, 1000000)):
            for eaten in ((), (10,)):
                for held, frozen in (([row(name, LIFE, eaten)], []), ([], [row(name, LIFE, eaten)])):
                    bad = picture(self.clients, [agent((0, 1), held, frozen)])
                    self.finds(eaten_fault, bad, ("eaten", name))

    def test_the_least_one_counts(self):
        agents = [agent((0, 1), [row((1, 1), THIRD, (1,))], [row((0, 2), OTHER, (2,))]),
                  agent((1, 1), [row((0, 3), LIFE)], [row((1, 1), LIFE, (3,))])]
        self.finds(eaten_fault, picture(self.clients, agents), ("eaten", (0, 2)))
        self.finds(eaten_fault, picture(self.clients, agents[1:]), ("eaten", (0, 3)))

    def test_the_first_picture_counts(self):
        pictures = [
            picture(self.clients, [agent((0, 1), [row(name, LIFE, (3,))])]) for name in ((1, 1), (0, 1))]
        self.assertEqual(eaten_fault(pictures), ("eaten", 0, (1, 1)))

    def test_no_fault(self):
        for eaten in ((), (10,), (10, 255), (10, 255, 7)):
            for agents in ([agent((0, 1), [row((0, 1), LIFE, eaten)])], [agent((0, 1), [], [row((0, 2), LIFE, eaten)])]):
                self.assertIsNone(eaten_fault([picture(self.clients, agents)]))


class StreamTest(JudgeCase):
    # The first state of this flow is 16.
    name = (0, 1)
    answers = (26, (16 * 5 + 10 + 1 + 255) % 256, (((91 * 5) + 256) % 256 + 7) % 256)

    def pictured(self, *some):
        return picture([some])

    def test_answers(self):
        self.assertEqual(self.answers, answers_to(self.name, WRITTEN))

    def test_what_was_not_answered(self):
        for read in ((25,), (10,), self.answers[1:], self.answers + (0,), self.answers[:2] + (0,), (26, 91)):
            for state in ("opening", "open", "ended", "gone"):
                for closed in (0, 1):
                    bad = self.pictured(flow(1, LIFE, WRITTEN, closed, read, state))
                    self.finds(stream_fault, bad, ("stream", (0, 1)))

    def test_ended_too_early(self):
        for closed, read in ((0, self.answers), (0, ()), (1, ()), (1, self.answers[:1]), (1, self.answers[:2])):
            bad = self.pictured(flow(1, LIFE, WRITTEN, closed, read, "ended"))
            self.finds(stream_fault, bad, ("stream", (0, 1)))
        self.finds(stream_fault, self.pictured(flow(1, LIFE, (), 0, (), "ended")), ("stream", (0, 1)))

    def test_the_flow_tells_the_answers(self):
        for client in range(6):
            for number in (1, 2, 3):
                flows = [flow(before) for before in range(1, number)]
                good = answers_to((client, number), WRITTEN)
                clients = [()] * client + [flows + [flow(number, LIFE, WRITTEN, 1, good, "ended")]]
                self.assertIsNone(stream_fault([picture(clients)]))
                bad = good[:2] + ((good[2] + 1) % 256,)
                clients = [()] * client + [flows + [flow(number, LIFE, WRITTEN, 1, bad, "open")]]
                self.finds(stream_fault, picture(clients), ("stream", (client, number)))

    def test_the_least_one_counts(self):
        bad = [flow(number, LIFE, WRITTEN, 0, (1, 2, 3), "open") for number in (2, 3)]
        self.finds(stream_fault, picture([[flow(1)] + bad, bad]), ("stream", (0, 2)))
        self.finds(stream_fault, picture([[flow(1)], [flow(1)] + bad]), ("stream", (1, 2)))

    def test_the_first_picture_counts(self):
        bad = flow(1, LIFE, WRITTEN, 0, (1, 2, 3), "open")
        self.assertEqual(stream_fault([picture([[], [bad]]), picture([[bad]])]), ("stream", 0, (1, 1)))

    def test_no_fault(self):
        for many in range(4):
            for closed in (0, 1):
                for state in ("opening", "open", "gone"):
                    good = self.pictured(flow(1, LIFE, WRITTEN, closed, self.answers[:many], state))
                    self.assertIsNone(stream_fault([good]))
        self.assertIsNone(stream_fault([self.pictured(flow(1, LIFE, WRITTEN, 1, self.answers, "ended"))]))
        self.assertIsNone(stream_fault([self.pictured(flow(1, LIFE, (), 1, (), "ended"))]))


class GoneTest(JudgeCase):
    def pictured(self, state, held, frozen=()):
        flows = [flow(1, LIFE, (), 0, (), state), flow(2, OTHER, (), 0, (), state)]
        return picture([flows, flows[:1]], [agent((0, 1), held, frozen), agent((1, 1))])

    def test_the_adopted_life_is_held(self):
        for name, life in (((0, 1), LIFE), ((0, 2), OTHER), ((1, 1), LIFE)):
            self.finds(gone_fault, self.pictured("gone", [row(name, life)]), ("gone", name))

    def test_the_least_one_counts(self):
        held = [row((1, 1), LIFE), row((0, 2), OTHER)]
        self.finds(gone_fault, self.pictured("gone", held), ("gone", (0, 2)))

    def test_the_first_picture_counts(self):
        pictures = [self.pictured("gone", [row((1, 1), LIFE)]), self.pictured("gone", [row((0, 1), LIFE)])]
        self.assertEqual(gone_fault(pictures), ("gone", 0, (1, 1)))

    def test_no_fault(self):
        for good in (
                self.pictured("gone", []), self.pictured("gone", [row((0, 1), OTHER), row((0, 2), LIFE)]),
                self.pictured("gone", [], [row((0, 1), LIFE)]), self.pictured("open", [row((0, 1), LIFE)]),
                self.pictured("ended", [row((0, 1), LIFE)]), self.pictured("opening", [row((0, 1), LIFE)]),
                picture([[flow(1, None, (), 0, (), "gone")]], [agent((0, 1), [row((0, 1), LIFE)])])):
            self.assertIsNone(gone_fault([good]))


class BackTest(JudgeCase):
    answers = answers_to((0, 1), WRITTEN)
    here = flow(1, LIFE, WRITTEN, 1, answers[:2], "open")

    def bad(self, before, now, name=(0, 1)):
        """The flow goes back from the one to the other, wherever they stand in the pictures."""
        front = [picture([[before]])]
        behind = [picture([[now]])]
        for many in range(1, 4):
            for more in range(1, 4):
                self.assertEqual(back_fault(front * many + behind * more), ("back", many, name))

    def good(self, before, now):
        self.assertIsNone(back_fault([picture([[before]]), picture([[now]])]))

    def test_a_flow_that_is_not_there_any_more(self):
        for before, now, name in (
                ([[flow(1)]], [[]], (0, 1)), ([[flow(1)]], [], (0, 1)), ([[flow(1), flow(2)]], [[flow(1)]], (0, 2)),
                ([[flow(1)], [flow(1)]], [[flow(1)], []], (1, 1)), ([[], [flow(1)]], [[flow(1)]], (1, 1))):
            self.assertEqual(back_fault([picture(before), picture(now)]), ("back", 1, name))
        for before, now in (([], [[flow(1)]]), ([[flow(1)]], [[flow(1), flow(2)]]), ([[flow(1)], []], [[flow(1)], [flow(1)]])):
            self.assertIsNone(back_fault([picture(before), picture(now)]))

    def test_what_was_written(self):
        for written in ((), (10,), (10, 255), (10, 255, 8), (11, 255, 7), (10, 255, 8, 7), (255, 7, 10)):
            self.bad(flow(), flow(1, LIFE, written))
        for written in (WRITTEN, WRITTEN + (0,), WRITTEN + (1, 2, 3)):
            self.good(flow(), flow(1, LIFE, written))
        self.good(flow(1, LIFE, ()), flow())

    def test_what_was_read(self):
        for read in ((), self.answers[:1], self.answers[1:], (0,) + self.answers[1:]):
            self.bad(self.here, flow(1, LIFE, WRITTEN, 1, read))
        for read in (self.answers[:2], self.answers):
            self.good(self.here, flow(1, LIFE, WRITTEN, 1, read))

    def test_closed(self):
        self.bad(flow(1, LIFE, WRITTEN, 1), flow(1, LIFE, WRITTEN, 0))
        for before, now in ((0, 0), (0, 1), (1, 1)):
            self.good(flow(1, LIFE, WRITTEN, before), flow(1, LIFE, WRITTEN, now))

    def test_the_life(self):
        for life in (None, OTHER, (0, 1, 2), (0, 2, 1)):
            self.bad(flow(), flow(1, life))
        self.good(flow(1, None), flow(1, LIFE))
        self.good(flow(1, None), flow(1, None))
        self.good(flow(), flow())

    def test_the_state(self):
        allowed = {
            "opening": ("opening", "open", "ended", "gone"), "open": ("open", "ended", "gone"), "ended": ("ended",),
            "gone": ("gone",)}
        for before in allowed:
            for now in allowed:
                call = self.good if now in allowed[before] else self.bad
                call(flow(1, LIFE, WRITTEN, 1, (), before), flow(1, LIFE, WRITTEN, 1, (), now))

    def test_only_the_picture_before_is_asked(self):
        pictures = [picture([[flow(1, LIFE, WRITTEN)]]), picture([[flow(1, LIFE, ())]]), picture([[flow(1, LIFE, ())]])]
        self.assertEqual(back_fault(pictures), ("back", 1, (0, 1)))
        self.assertIsNone(back_fault(pictures[1:]))
        self.assertIsNone(back_fault(pictures[:1]))

    def test_the_first_picture_is_never_one(self):
        for first in (picture(), GOOD, picture([[flow(1, None, (), 0, (), "gone")]])):
            self.assertIsNone(back_fault([first]))

    def test_the_least_one_counts(self):
        flows = [flow(1), flow(2), flow(3)]
        worse = [flow(1), flow(2, OTHER), flow(3, OTHER)]
        self.assertEqual(back_fault([picture([flows]), picture([worse])]), ("back", 1, (0, 2)))
        self.assertEqual(back_fault([picture([flows, flows]), picture([flows, worse])]), ("back", 1, (1, 2)))
        self.assertEqual(back_fault([picture([flows, flows]), picture([worse[:1], flows[1:]])]), ("back", 1, (0, 2)))

    def test_the_least_index_counts(self):
        pictures = [picture([[flow(1)], [flow(1)]]), picture([[flow(1)], []]), picture([[], []])]
        self.assertEqual(back_fault(pictures), ("back", 1, (1, 1)))


class JudgeTest(unittest.TestCase):
    def test_the_examples_of_the_document(self):
        some = (1, (0, 1, 1), (10, 255), 0, (15,), "open")
        one = ((0, 1), (((0, 1), (0, 1, 1), 0, (10,)),), (), (3, 5))
        self.assertEqual(judge([(0, ((some,),), (one,))]), [("stream", 0, (0, 1))])
        other = ((1, 1), (), (), (5,))
        self.assertEqual(judge([(0, ((some[:4] + ((26,), "open"),),), (one, other))]), [("creators", 0, 5)])

    def test_all_kinds_in_order(self):
        bad = picture(
            [[flow(1, LIFE, (), 0, (9,), "gone")]],
            [agent((0, 1), [row((0, 1), LIFE), row((0, 1), OTHER)], [], (4, 7)),
             agent((1, 1), [row((0, 1), LIFE, (3,))], [], (7,))])
        kinds = [
            ("holders", 1, (0, 1), LIFE), ("creators", 1, 7), ("lives", 1, (0, 1)), ("eaten", 1, (0, 1)),
            ("stream", 1, (0, 1)), ("gone", 1, (0, 1))]
        pictures = [picture(), bad, bad]
        self.assertEqual(judge(pictures), kinds)
        self.assertEqual(judge(pictures + [picture()]), kinds + [("back", 3, (0, 1))])
        self.assertIs(type(judge(pictures)), list)
        self.assertEqual(judge(pictures), [fault for fault in [
            function(pictures) for function in FUNCTIONS] if fault is not None])

    def test_each_kind_has_its_own_first_picture(self):
        creators = picture(agents=[agent((0, 1), (), (), (4,)), agent((1, 1), (), (), (4,))])
        eaten = picture(agents=[agent((0, 1), [row((0, 1))])])
        self.assertEqual(judge([picture(), eaten, creators, eaten]), [("creators", 2, 4), ("eaten", 1, (0, 1))])

    def test_pictures_are_not_changed(self):
        pictures = [GOOD, picture(), GOOD]
        judge(pictures)
        self.assertEqual(pictures, [GOOD, picture(), GOOD])


class PlaceTest(unittest.TestCase):
    def test_names_are_defined_in_their_file(self):
        for function in FUNCTIONS + [judge]:
            self.assertEqual(function.__module__, "heldflows.judging")
            self.assertIs(vars(judging)[function.__name__], function)


if __name__ == "__main__":
    unittest.main()
