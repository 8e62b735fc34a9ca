"""Point 703: the directory of a bucket from reports."""

import itertools
import random
import unittest

from heldflows.reports import directory_of

FIRST, SECOND, THIRD = (1, 2), (2, 1), (3, 7)
BIRTHS = (FIRST, SECOND, THIRD)
FLOWS = [(0, 2), (0, 18), (1, 7)]
FLOW = FLOWS[1]
LIVES = [(0, 1, 7), (2, 1, 1), (2, 1, 4)]
LIFE = LIVES[1]


def row(epoch, place, life=LIFE, flow=FLOW):
    return flow, life, epoch, place


class DirectoryTest(unittest.TestCase):
    def whatever_the_order(self, rows, expected, births=BIRTHS):
        """All rows, in one report or in several, in any order, have this directory."""
        for some in itertools.permutations(rows):
            for cut in range(len(some) + 1):
                self.assertEqual(directory_of([some[:cut], some[cut:]], births), expected)
            self.assertEqual(directory_of([(found,) for found in some], births), expected)
            self.assertEqual(directory_of([()] + [some] + [some, ()], births), expected)

    def test_no_reports_and_no_rows(self):
        self.assertEqual(directory_of([], BIRTHS), ())
        self.assertEqual(directory_of([(), ()], BIRTHS), ())
        self.assertEqual(directory_of([(row(0, FIRST),)], ()), ())

    def test_rows_are_ascending(self):
        rows = [row(3, SECOND, LIFE, FLOWS[2]), row(0, FIRST, LIVES[2], FLOWS[0]), row(9, THIRD, LIVES[0], FLOWS[1])]
        self.whatever_the_order(rows, (rows[1], rows[2], rows[0]))

    def test_the_greatest_epoch_counts(self):
        for places in itertools.permutations(BIRTHS):
            rows = [row(epoch, place) for epoch, place in zip((0, 1, 1000000), places)]
            self.whatever_the_order(rows, (rows[2],))

    def test_a_life_that_has_ended(self):
        self.whatever_the_order([row(3, FIRST), row(4, None)], ())
        self.whatever_the_order([row(4, FIRST), row(3, None)], (row(4, FIRST),))
        self.whatever_the_order([row(3, FIRST), row(3, None), row(3, SECOND)], ())
        self.whatever_the_order([row(3, None)], ())
        self.whatever_the_order([row(3, None), row(3, None), row(2, SECOND)], ())

    def test_the_first_one_of_the_same_epoch(self):
        for rows in itertools.permutations([row(3, FIRST), row(3, SECOND), row(3, THIRD)]):
            for cut in range(4):
                self.assertEqual(directory_of([rows[:cut], rows[cut:]], BIRTHS), (rows[0],))
            lesser = (row(2, THIRD),)
            self.assertEqual(directory_of([lesser, rows[:1], lesser, rows[1:]], BIRTHS), (rows[0],))

    def test_the_place_is_none_of_the_births(self):
        for place in ((1, 1), (1, 3), (4, 1)):
            self.whatever_the_order([row(3, place)], ())
            # A row that counts and is not in the directory leaves no room to another one of its life.
            self.whatever_the_order([row(3, place), row(2, FIRST)], ())
            self.whatever_the_order([row(1, place), row(2, FIRST)], (row(2, FIRST),))
        self.assertEqual(directory_of([(row(3, (1, 1)), row(3, FIRST))], BIRTHS), ())
        self.whatever_the_order([row(3, FIRST)], (), (SECOND, THIRD))

    def test_the_greatest_life_of_a_flow(self):
        rows = [row(9, FIRST, LIVES[0]), row(0, SECOND, LIVES[1]), row(4, THIRD, LIVES[2])]
        self.whatever_the_order(rows, (rows[2],))
        self.whatever_the_order(rows[:2], (rows[1],))
        self.whatever_the_order(rows[:2] + [row(4, None, LIVES[2])], (rows[1],))
        self.whatever_the_order(rows[:2] + [row(4, (4, 1), LIVES[2])], (rows[1],))
        self.whatever_the_order([row(0, FIRST, (2, 1, 9)), row(0, SECOND, (2, 1, 10))], (row(0, SECOND, (2, 1, 10)),))

    def test_lives_of_several_flows_with_the_same_name(self):
        rows = [row(3, FIRST), row(2, SECOND, LIFE, FLOWS[0]), row(3, None, LIFE, FLOWS[2])]
        self.whatever_the_order(rows, (rows[1], rows[0]))

    def test_kinds_of_values(self):
        reports = [(row(3, FIRST), row(3, None, LIVES[0]))]
        before = list(reports)
        found = directory_of(reports, BIRTHS)
        self.assertIs(type(found), tuple)
        self.assertIs(type(found[0]), tuple)
        self.assertEqual(reports, before)

    def test_drawn_reports(self):
        for seed in range(200):
            choices = random.Random(seed)
            reports = []
            for _ in range(4):
                reports.append(tuple(
                    row(choices.randrange(3), choices.choice(BIRTHS + (None, (4, 1))), choices.choice(LIVES),
                        choices.choice(FLOWS)) for _ in range(choices.randrange(8))))
            rows = [found for report in reports for found in report]
            expected = {}
            for flow in FLOWS:
                for life in LIVES:
                    same = [found for found in rows if found[:2] == (flow, life)]
                    best = [found for found in same if found[2] == max(other[2] for other in same)]
                    best.sort(key=lambda found: found[3] is not None)
                    if best and best[0][3] in BIRTHS:
                        expected[flow] = best[0]
            self.assertEqual(directory_of(reports, BIRTHS), tuple(expected[flow] for flow in FLOWS if flow in expected))


class PlaceTest(unittest.TestCase):
    def test_names_are_defined_in_their_file(self):
        self.assertEqual(directory_of.__module__, "heldflows.reports")


if __name__ == "__main__":
    unittest.main()
