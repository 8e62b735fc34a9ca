"""Points 701 and 702: the agents as the controller knows them."""

import random
import unittest

from heldflows.errors import BadCall
from heldflows.members import Members
from strange import STRANGE


def members_with(*births):
    members = Members()
    for birth in births:
        members.born(birth)
    return members


def shown(members):
    """Returns all that members show of the births 1 to 9, and of some greater ones."""
    numbers = list(range(1, 10)) + [999999, 1000000]
    alive = [members.is_alive((agent, number)) for agent in range(6) for number in numbers]
    return members.births(), alive, members.serving(), members.candidates()


class BirthsTest(unittest.TestCase):
    def test_nobody(self):
        members = Members()
        self.assertEqual(shown(members), ((), [False] * 66, [], []))

    def test_first_later_again_and_less(self):
        members = Members()
        for birth, told, births in (
                ((3, 4), "first", ((3, 4),)), ((3, 4), "known", ((3, 4),)), ((3, 3), "dead", ((3, 4),)),
                ((3, 1), "dead", ((3, 4),)), ((3, 5), "later", ((3, 5),)), ((3, 4), "dead", ((3, 5),)),
                ((0, 2), "first", ((0, 2), (3, 5))), ((3, 1000000), "later", ((0, 2), (3, 1000000))),
                ((3, 999999), "dead", ((0, 2), (3, 1000000))), ((5, 1), "first", ((0, 2), (3, 1000000), (5, 1))),
                ((1, 9), "first", ((0, 2), (1, 9), (3, 1000000), (5, 1)))):
            self.assertEqual(members.born(birth), told)
            self.assertEqual(members.births(), births)
            for agent in range(6):
                for number in (1, 2, 3, 4, 5, 9, 999999, 1000000):
                    self.assertIs(members.is_alive((agent, number)), (agent, number) in births)

    def test_members_share_nothing(self):
        first, second = members_with((1, 1)), Members()
        self.assertEqual(second.births(), ())
        second.wish(1, "drain")
        second.born((1, 2))
        self.assertEqual((first.births(), first.serving()), (((1, 1),), [1]))


class WishesTest(unittest.TestCase):
    def test_all_serve_at_first(self):
        members = members_with((4, 1), (0, 3), (2, 2))
        self.assertEqual(members.serving(), [0, 2, 4])
        self.assertEqual(members.candidates(), [0, 2, 4])

    def test_drain_and_serve(self):
        members = members_with((4, 1), (0, 3), (2, 2))
        for agent, word, serving, candidates in (
                (2, "drain", [0, 4], [0, 4]), (2, "drain", [0, 4], [0, 4]), (0, "serve", [0, 4], [0, 4]),
                (4, "drain", [0], [0]), (0, "drain", [], [0, 2, 4]), (4, "serve", [4], [4]),
                (0, "serve", [0, 4], [0, 4]), (2, "serve", [0, 2, 4], [0, 2, 4])):
            self.assertIsNone(members.wish(agent, word))
            self.assertEqual(members.serving(), serving)
            self.assertEqual(members.candidates(), candidates)

    def test_a_wish_for_an_agent_without_a_known_birth(self):
        members = Members()
        for agent in range(6):
            members.wish(agent, "drain")
        self.assertEqual((members.serving(), members.candidates(), members.births()), ([], [], ()))
        members.born((5, 1))
        self.assertEqual((members.serving(), members.candidates()), ([], [5]))
        members.wish(3, "serve")
        self.assertEqual((members.serving(), members.candidates()), ([], [5]))
        members.born((3, 1))
        self.assertEqual((members.serving(), members.candidates()), ([3], [3]))

    def test_a_wish_stays_for_a_later_birth(self):
        members = members_with((1, 1), (2, 1))
        members.wish(1, "drain")
        self.assertEqual(members.born((1, 2)), "later")
        self.assertEqual(members.serving(), [2])

    def test_wishes_that_are_none(self):
        members = members_with((1, 1), (2, 1))
        members.wish(2, "drain")
        before = shown(members)
        for agent in (6, -1, True, False, None, 1.0, "1", (1,), (1, 1), [1], 10 ** 20):
            for word in ("serve", "drain"):
                with self.assertRaises(BadCall):
                    members.wish(agent, word)
        for word in ("", "Serve", "drains", "serve ", b"serve", None, 0, True, ("serve",), ["drain"]):
            for agent in (1, 2):
                with self.assertRaises(BadCall):
                    members.wish(agent, word)
        for value in STRANGE:
            for call in ((value, "drain"), (1, value), (value, value)):
                # Two of the values are agents.
                if call[1] is value or type(value) is not int or value not in (0, 1):
                    with self.assertRaises(BadCall):
                        members.wish(*call)
        self.assertEqual(shown(members), before)


class ListsTest(unittest.TestCase):
    def test_lists_are_new(self):
        members = members_with((1, 1), (2, 1))
        for word in ("serve", "drain"):
            for agent in (1, 2):
                members.wish(agent, word)
            before = shown(members)
            for call in (Members.serving, Members.candidates):
                self.assertIs(type(call(members)), list)
                call(members).append(3)
                call(members).clear()
                self.assertEqual(shown(members), before)
        self.assertIs(type(members.births()), tuple)


class DrawnTest(unittest.TestCase):
    def test_drawn_births(self):
        for seed in range(30):
            choices = random.Random(seed)
            members = Members()
            known = {}
            for _ in range(60):
                birth = (choices.randrange(6), choices.randint(1, 5))
                before = known.get(birth[0], 0)
                told = "first" if before == 0 else "later"
                if before >= birth[1]:
                    told = "known" if before == birth[1] else "dead"
                self.assertEqual(members.born(birth), told)
                known[birth[0]] = max(before, birth[1])
                self.assertEqual(members.births(), tuple(sorted(known.items())))


class PlaceTest(unittest.TestCase):
    def test_names_are_defined_in_their_file(self):
        self.assertEqual(Members.__module__, "heldflows.members")
        for name in ("born", "births", "is_alive", "wish", "serving", "candidates"):
            self.assertIn(name, vars(Members))


if __name__ == "__main__":
    unittest.main()
