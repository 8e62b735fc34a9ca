"""Points 604, 605, 606, 608 and 613, as far as they concern what an agent knows of buckets."""

import random
import unittest

from heldflows.ledger import Ledger

ME = (2, 3)
PEER = (4, 1)
THIRD = (5, 9)
# Flows of bucket 10, ascending, and one of bucket 5.
FLOWS = [(0, 2), (0, 18), (1, 7), (2, 12), (2, 300)]
ELSEWHERE = (0, 1)
LIFE = (0, 1, 7)
OTHER = (3, 1, 1)
ROWS = ((FLOWS[0], LIFE, 0, ME), (FLOWS[2], (1, 2, 3), 4, PEER), (FLOWS[4], OTHER, 1000000, THIRD))


def creator_of(rows=ROWS, version=6):
    """Returns a ledger that is the creator of bucket 10, with this directory."""
    ledger = Ledger(ME)
    ledger.take(10, version, rows)
    return ledger


def giver_to(receiver, version=7):
    """Returns a ledger that was the creator of bucket 10, and has given it away."""
    ledger = creator_of(version=version - 1)
    ledger.give(10, version, receiver, ROWS)
    return ledger


def moved(flow, life, epoch, place, sender=PEER):
    return ("moved", sender, flow, life, epoch, place)


def ended(flow, life, epoch, sender=PEER):
    return ("ended", sender, flow, life, epoch)


def picture(ledger):
    """Returns all that a ledger tells."""
    buckets = []
    for bucket in range(16):
        rows = [ledger.row(bucket, flow) for flow in FLOWS + [ELSEWHERE]]
        buckets.append((
            ledger.version(bucket), ledger.is_creator(bucket), ledger.pointer(bucket), ledger.directory(bucket), rows))
    return ledger.creates(), ledger.grants(), ledger.owns(), buckets


class LedgerCase(unittest.TestCase):
    def looks(self, ledger, version, directory=None, pointer=None, grants=(), owns=()):
        """Looks at a ledger that knows of bucket 10 alone."""
        self.assertEqual(ledger.version(10), version)
        self.assertIs(ledger.is_creator(10), directory is not None)
        self.assertEqual(ledger.creates(), [] if directory is None else [(10, version)])
        self.assertEqual(ledger.directory(10), directory)
        found = {row[0]: row[1:] for row in directory or ()}
        for flow in FLOWS:
            self.assertEqual(ledger.row(10, flow), found.get(flow))
        self.assertEqual(ledger.pointer(10), pointer)
        self.assertEqual(ledger.grants(), list(grants))
        self.assertEqual(ledger.owns(), list(owns))
        self.knows_nothing(ledger, [bucket for bucket in range(16) if bucket != 10])

    def knows_nothing(self, ledger, buckets):
        for bucket in buckets:
            self.assertEqual(ledger.version(bucket), 0)
            self.assertIs(ledger.is_creator(bucket), False)
            self.assertIsNone(ledger.directory(bucket))
            self.assertIsNone(ledger.pointer(bucket))
            self.assertIsNone(ledger.row(bucket, ELSEWHERE))

    def stays(self, ledger, call, *parts):
        before = picture(ledger)
        found = call(ledger, *parts)
        self.assertEqual(picture(ledger), before)
        return found


class NewTest(LedgerCase):
    def test_it_knows_nothing(self):
        ledger = Ledger(ME)
        self.looks(ledger, 0)
        self.knows_nothing(ledger, range(16))
        self.assertEqual((ledger.creates(), ledger.grants(), ledger.owns()), ([], [], []))

    def test_kinds_of_values(self):
        ledger = Ledger(ME)
        self.assertIsNone(ledger.take(10, 6, ROWS))
        self.assertIsNone(ledger.put(10, FLOWS[1], (LIFE, 0, ME)))
        self.assertIs(type(ledger.version(10)), int)
        self.assertIs(ledger.is_creator(10), True)
        self.assertIs(ledger.is_creator(9), False)
        for found in (ledger.creates(), ledger.owns(), ledger.grants()):
            self.assertIs(type(found), list)
        self.assertIs(type(ledger.creates()[0]), tuple)
        self.assertIs(type(ledger.owns()[0]), tuple)
        self.assertIs(type(ledger.directory(10)), tuple)
        self.assertIs(type(ledger.directory(10)[0]), tuple)
        self.assertIs(type(ledger.row(10, FLOWS[0])), tuple)
        self.assertIsNone(ledger.known(10, 6))
        self.assertIsNone(ledger.note(ended(FLOWS[0], LIFE, 0)))
        self.assertIs(type(ledger.give(10, 7, PEER, ())), tuple)
        self.assertIs(type(ledger.grants()[0]), tuple)
        self.assertIsNone(ledger.granted(10, 7))
        self.assertIs(ledger.stop(10, 7), True)
        self.assertIs(ledger.stop(10, 6), False)

    def test_ledgers_share_nothing(self):
        first, second = creator_of(), Ledger(PEER)
        self.looks(second, 0)
        second.take(10, 2, ROWS)
        second.put(10, FLOWS[0], (OTHER, 5, PEER))
        self.looks(first, 6, ROWS, owns=[(10, 6)])


class TakeTest(LedgerCase):
    def test_rows(self):
        for rows in ((), ROWS[:1], ROWS):
            self.looks(creator_of(rows), 6, rows, owns=[(10, 6)])

    def test_rows_in_any_order(self):
        self.looks(creator_of(ROWS[::-1]), 6, ROWS, owns=[(10, 6)])
        self.looks(creator_of((ROWS[1], ROWS[2], ROWS[0])), 6, ROWS, owns=[(10, 6)])

    def test_rows_that_come_twice(self):
        self.looks(creator_of(ROWS + ROWS[::-1]), 6, ROWS, owns=[(10, 6)])

    def test_a_row(self):
        ledger = creator_of()
        self.assertEqual(ledger.row(10, FLOWS[2]), ((1, 2, 3), 4, PEER))
        self.assertIsNone(ledger.row(10, FLOWS[1]))
        self.assertIsNone(ledger.row(9, FLOWS[2]))

    def test_a_greater_version_of_a_bucket_that_it_creates(self):
        ledger = creator_of()
        ledger.known(10, 6)
        ledger.take(10, 7, ROWS[:1])
        self.looks(ledger, 7, ROWS[:1], owns=[(10, 7)])

    def test_versions_that_are_not_greater(self):
        for version in (6, 5, 1, 0):
            ledger = creator_of()
            self.stays(ledger, Ledger.take, 10, version, ())
            ledger = giver_to(PEER, 6)
            self.stays(ledger, Ledger.take, 10, version, ROWS)
            ledger = Ledger(ME)
            ledger.stop(10, 6)
            self.stays(ledger, Ledger.take, 10, version, ROWS)
        self.stays(Ledger(ME), Ledger.take, 10, 0, ROWS)

    def test_a_pointer_and_a_grant_are_forgotten(self):
        ledger = giver_to(PEER)
        ledger.take(10, 8, ROWS[1:])
        self.looks(ledger, 8, ROWS[1:], owns=[(10, 8)])

    def test_behind_a_stop(self):
        ledger = creator_of()
        ledger.stop(10, 9)
        ledger.take(10, 10, ROWS)
        self.looks(ledger, 10, ROWS, owns=[(10, 10)])

    def test_several_buckets(self):
        ledger = Ledger(ME)
        for bucket, version in ((10, 1), (0, 5), (15, 2), (3, 1000000)):
            ledger.take(bucket, version, ())
        expected = [(0, 5), (3, 1000000), (10, 1), (15, 2)]
        self.assertEqual(ledger.creates(), expected)
        self.assertEqual(ledger.owns(), expected)
        for bucket in range(16):
            self.assertIs(ledger.is_creator(bucket), bucket in (0, 3, 10, 15))
            self.assertEqual(ledger.version(bucket), dict(expected).get(bucket, 0))
            self.assertEqual(ledger.directory(bucket), () if bucket in (0, 3, 10, 15) else None)


class PutTest(LedgerCase):
    def test_new_rows(self):
        ledger = creator_of(())
        for flow in (FLOWS[3], FLOWS[0], FLOWS[4]):
            ledger.put(10, flow, (LIFE, 3, ME))
        expected = tuple((flow, LIFE, 3, ME) for flow in (FLOWS[0], FLOWS[3], FLOWS[4]))
        self.looks(ledger, 6, expected, owns=[(10, 6)])

    def test_a_flow_that_has_a_row(self):
        ledger = creator_of()
        for row in ((OTHER, 3, THIRD), (LIFE, 0, ME)):
            ledger.put(10, FLOWS[2], row)
            self.looks(ledger, 6, (ROWS[0], (FLOWS[2],) + row, ROWS[2]), owns=[(10, 6)])

    def test_directories_do_not_hinder_each_other(self):
        ledger = creator_of()
        ledger.take(5, 2, ())
        ledger.put(5, ELSEWHERE, (LIFE, 0, ME))
        self.assertEqual(ledger.directory(10), ROWS)
        self.assertEqual(ledger.directory(5), ((ELSEWHERE, LIFE, 0, ME),))
        self.assertEqual(ledger.row(5, ELSEWHERE), (LIFE, 0, ME))
        self.assertIsNone(ledger.row(10, ELSEWHERE))
        self.assertIsNone(ledger.row(5, FLOWS[0]))


class GiveTest(LedgerCase):
    def test_the_grant(self):
        for rows in ((), ROWS, ROWS[:1]):
            for receiver in (PEER, THIRD):
                ledger = creator_of()
                grant = ("grant", ME, receiver, 10, 7, rows)
                self.assertEqual(ledger.give(10, 7, receiver, rows), grant)
                self.looks(ledger, 7, pointer=receiver, grants=[grant])

    def test_the_birth_that_gives(self):
        ledger = Ledger(THIRD)
        ledger.take(3, 1, ())
        self.assertEqual(ledger.give(3, 1000000, ME, ROWS), ("grant", THIRD, ME, 3, 1000000, ROWS))
        self.assertEqual(ledger.version(3), 1000000)

    def test_grants_in_ascending_order_of_the_bucket(self):
        ledger = Ledger(ME)
        for bucket in (12, 2, 15, 0):
            ledger.take(bucket, 1, ())
        grants = {}
        for bucket, receiver in ((12, THIRD), (0, PEER), (15, PEER)):
            grants[bucket] = ledger.give(bucket, 20 - bucket, receiver, ())
            self.assertEqual(ledger.grants(), [grants[known] for known in sorted(grants)])
        self.assertEqual(ledger.creates(), [(2, 1)])
        self.assertEqual(ledger.owns(), [(2, 1)])
        self.assertEqual([ledger.pointer(bucket) for bucket in (0, 2, 12, 15)], [PEER, None, THIRD, PEER])

    def test_granted(self):
        grant = ("grant", ME, PEER, 10, 7, ROWS)
        for version in (6, 8, 0, 70):
            ledger = giver_to(PEER)
            ledger.granted(10, version)
            self.looks(ledger, 7, pointer=PEER, grants=[grant])
        for bucket in (9, 11, 0):
            ledger.granted(bucket, 7)
            self.looks(ledger, 7, pointer=PEER, grants=[grant])
        for _ in range(2):
            ledger.granted(10, 7)
            self.looks(ledger, 7, pointer=PEER)

    def test_granted_without_a_grant(self):
        for ledger in (Ledger(ME), creator_of()):
            for version in (0, 6, 7):
                self.stays(ledger, Ledger.granted, 10, version)

    def test_known(self):
        for version in (5, 7, 0, 60):
            ledger = creator_of()
            ledger.known(10, version)
            self.looks(ledger, 6, ROWS, owns=[(10, 6)])
        for bucket in (9, 11, 0):
            ledger.known(bucket, 6)
            self.looks(ledger, 6, ROWS, owns=[(10, 6)])
        for _ in range(2):
            ledger.known(10, 6)
            self.looks(ledger, 6, ROWS)

    def test_known_of_a_bucket_that_it_does_not_own(self):
        for ledger in (Ledger(ME), giver_to(PEER)):
            for version in (0, 6, 7):
                self.stays(ledger, Ledger.known, 10, version)

    def test_granted_and_known_do_not_stand_for_each_other(self):
        self.stays(giver_to(PEER), Ledger.known, 10, 7)
        self.stays(creator_of(), Ledger.granted, 10, 6)


class StopTest(LedgerCase):
    def test_a_lesser_version(self):
        for version in (0, 5):
            for ledger in (creator_of(), giver_to(PEER, 6)):
                self.assertIs(self.stays(ledger, Ledger.stop, 10, version), False)

    def test_an_equal_version(self):
        for ledger in (creator_of(), giver_to(PEER, 6)):
            for _ in range(2):
                self.assertIs(self.stays(ledger, Ledger.stop, 10, 6), True)
        self.assertIs(self.stays(Ledger(ME), Ledger.stop, 10, 0), True)

    def test_a_greater_version(self):
        for version in (7, 1000000):
            for ledger in (Ledger(ME), creator_of(), giver_to(PEER, 6)):
                self.assertIs(ledger.stop(10, version), True)
                self.looks(ledger, version)
                self.assertIs(ledger.stop(10, version), True)
                self.assertIs(ledger.stop(10, version - 1), False)
                self.looks(ledger, version)

    def test_other_buckets_stay(self):
        ledger = Ledger(ME)
        for bucket in (4, 5, 6):
            ledger.take(bucket, 1, ())
        ledger.put(5, ELSEWHERE, (LIFE, 0, ME))
        grant = ledger.give(6, 2, PEER, ())
        ledger.stop(4, 3)
        self.assertEqual((ledger.creates(), ledger.owns(), ledger.grants()), ([(5, 1)], [(5, 1)], [grant]))
        self.assertEqual(ledger.row(5, ELSEWHERE), (LIFE, 0, ME))
        self.assertEqual([ledger.version(bucket) for bucket in (3, 4, 5, 6)], [0, 3, 1, 2])
        self.assertEqual(ledger.pointer(6), PEER)


class NoteTest(LedgerCase):
    def notes(self, notice, *rows):
        ledger = creator_of()
        ledger.note(notice)
        self.looks(ledger, 6, rows, owns=[(10, 6)])

    def test_moved(self):
        for place in (ME, PEER, THIRD):
            for epoch in (5, 6, 1000000):
                row = (FLOWS[2], (1, 2, 3), epoch, place)
                self.notes(moved(FLOWS[2], (1, 2, 3), epoch, place), ROWS[0], row, ROWS[2])
            for epoch in (0, 3, 4):
                self.notes(moved(FLOWS[2], (1, 2, 3), epoch, place), *ROWS)

    def test_the_place_is_not_the_sender(self):
        self.notes(
            moved(FLOWS[2], (1, 2, 3), 5, THIRD, ME), ROWS[0], (FLOWS[2], (1, 2, 3), 5, THIRD), ROWS[2])

    def test_ended(self):
        for epoch in (0, 3, 4, 5, 1000000):
            self.notes(ended(FLOWS[2], (1, 2, 3), epoch), ROWS[0], ROWS[2])

    def test_another_life(self):
        for life in ((1, 2, 4), (1, 3, 3), (0, 2, 3), LIFE, OTHER):
            for epoch in (0, 4, 5):
                self.notes(moved(FLOWS[2], life, epoch, THIRD), *ROWS)
                self.notes(ended(FLOWS[2], life, epoch), *ROWS)

    def test_a_flow_without_a_row(self):
        for life in (LIFE, (1, 2, 3)):
            for epoch in (0, 5):
                self.notes(moved(FLOWS[1], life, epoch, THIRD), *ROWS)
                self.notes(ended(FLOWS[1], life, epoch), *ROWS)

    def test_a_bucket_that_it_does_not_create(self):
        for ledger in (Ledger(ME), giver_to(PEER), creator_of()):
            for flow in (FLOWS[0], ELSEWHERE):
                if not ledger.is_creator(10) or flow == ELSEWHERE:
                    self.stays(ledger, Ledger.note, moved(flow, LIFE, 5, THIRD))
                    self.stays(ledger, Ledger.note, ended(flow, LIFE, 5))

    def test_the_bucket_of_the_flow(self):
        ledger = creator_of()
        ledger.take(5, 1, ((ELSEWHERE, LIFE, 0, ME),))
        ledger.note(moved(ELSEWHERE, LIFE, 1, THIRD))
        self.assertEqual(ledger.directory(5), ((ELSEWHERE, LIFE, 1, THIRD),))
        self.assertEqual(ledger.directory(10), ROWS)
        ledger.note(ended(FLOWS[0], LIFE, 0))
        self.assertEqual(ledger.directory(5), ((ELSEWHERE, LIFE, 1, THIRD),))
        self.assertEqual(ledger.directory(10), ROWS[1:])

    def test_a_row_that_was_removed(self):
        ledger = creator_of()
        ledger.note(ended(FLOWS[0], LIFE, 0))
        ledger.note(ended(FLOWS[0], LIFE, 0))
        ledger.note(moved(FLOWS[0], LIFE, 5, THIRD))
        self.looks(ledger, 6, ROWS[1:], owns=[(10, 6)])
        ledger.put(10, FLOWS[0], (OTHER, 0, ME))
        self.looks(ledger, 6, ((FLOWS[0], OTHER, 0, ME),) + ROWS[1:], owns=[(10, 6)])

    def test_moved_again(self):
        ledger = creator_of()
        ledger.note(moved(FLOWS[0], LIFE, 2, THIRD))
        ledger.note(moved(FLOWS[0], LIFE, 1, PEER))
        ledger.note(moved(FLOWS[0], LIFE, 2, PEER))
        self.assertEqual(ledger.row(10, FLOWS[0]), (LIFE, 2, THIRD))
        ledger.note(moved(FLOWS[0], LIFE, 3, PEER))
        self.assertEqual(ledger.row(10, FLOWS[0]), (LIFE, 3, PEER))


class ListsTest(LedgerCase):
    def test_lists_are_new(self):
        for ledger in (Ledger(ME), creator_of(), giver_to(PEER)):
            before = picture(ledger)
            for call in (Ledger.creates, Ledger.grants, Ledger.owns):
                call(ledger).append((3, 1))
                self.assertEqual(picture(ledger), before)
                call(ledger).clear()
                self.assertEqual(picture(ledger), before)

    def test_directories_stay_as_they_were_returned(self):
        ledger = creator_of()
        directory = ledger.directory(10)
        ledger.put(10, FLOWS[1], (LIFE, 0, ME))
        ledger.note(ended(FLOWS[0], LIFE, 0))
        ledger.stop(10, 9)
        self.assertEqual(directory, ROWS)


class Model:
    """What the document says of one bucket."""

    def __init__(self):
        self.version = 0
        self.rows = None
        self.pointer = None
        self.grant = None
        self.owns = None


class DrawnTest(LedgerCase):
    def step(self, choices, ledger, models):
        """Does one of the calls that are allowed, to the ledger and to the model of the bucket."""
        # Buckets 5 and 10 have the flows of the test.
        bucket = choices.choice((5, 10))
        model = models[bucket]
        version = max(0, model.version + choices.randrange(-1, 3))
        flow = choices.choice(FLOWS) if bucket == 10 else ELSEWHERE
        life = choices.choice((LIFE, OTHER))
        epoch = choices.randrange(4)
        place = choices.choice((ME, PEER, THIRD))
        kind = choices.randrange(8)
        if kind == 0:
            rows = tuple((row[0], life, epoch, place) for row in ROWS) if bucket == 10 else ()
            ledger.take(bucket, version, rows)
            if model.version < version:
                model.version, model.owns, model.pointer, model.grant = version, version, None, None
                model.rows = {row[0]: row[1:] for row in rows}
        elif kind == 1 and model.rows is not None:
            ledger.put(bucket, flow, (life, epoch, place))
            model.rows[flow] = (life, epoch, place)
        elif kind == 2 and model.rows is not None and version > model.version:
            grant = ("grant", ME, place, bucket, version, ROWS)
            self.assertEqual(ledger.give(bucket, version, place, ROWS), grant)
            model.version, model.rows, model.owns, model.pointer, model.grant = version, None, None, place, grant
        elif kind == 3:
            self.assertIs(ledger.stop(bucket, version), model.version <= version)
            if model.version < version:
                models[bucket] = Model()
                models[bucket].version = version
        elif kind == 4:
            ledger.granted(bucket, version)
            if version == model.version:
                model.grant = None
        elif kind == 5:
            ledger.known(bucket, version)
            if version == model.version:
                model.owns = None
        elif kind == 6:
            ledger.note(moved(flow, life, epoch, place))
            row = (model.rows or {}).get(flow)
            if row is not None and row[0] == life and row[1] < epoch:
                model.rows[flow] = (life, epoch, place)
        elif kind == 7:
            ledger.note(ended(flow, life, epoch))
            if (model.rows or {}).get(flow, (None,))[0] == life:
                del model.rows[flow]

    def check(self, ledger, models):
        known = sorted(models.items())
        for bucket, model in known:
            rows = model.rows
            self.assertEqual(ledger.version(bucket), model.version)
            self.assertIs(ledger.is_creator(bucket), rows is not None)
            self.assertEqual(ledger.pointer(bucket), model.pointer)
            directory = None if rows is None else tuple((flow,) + rows[flow] for flow in sorted(rows))
            self.assertEqual(ledger.directory(bucket), directory)
            for flow in FLOWS + [ELSEWHERE]:
                self.assertEqual(ledger.row(bucket, flow), (rows or {}).get(flow))
        self.assertEqual(
            ledger.creates(), [(bucket, model.version) for bucket, model in known if model.rows is not None])
        self.assertEqual(ledger.grants(), [model.grant for _, model in known if model.grant is not None])
        self.assertEqual(ledger.owns(), [(bucket, model.owns) for bucket, model in known if model.owns is not None])

    def test_drawn_calls(self):
        for seed in range(60):
            choices = random.Random(seed)
            ledger = Ledger(ME)
            models = {5: Model(), 10: Model()}
            for _ in range(80):
                self.step(choices, ledger, models)
                self.check(ledger, models)


class PlaceTest(unittest.TestCase):
    def test_names_are_defined_in_their_file(self):
        self.assertEqual(Ledger.__module__, "heldflows.ledger")
        for name in (
                "version", "is_creator", "creates", "directory", "row", "pointer", "put", "give", "take", "stop",
                "grants", "owns", "granted", "known", "note"):
            self.assertIn(name, vars(Ledger))


if __name__ == "__main__":
    unittest.main()
