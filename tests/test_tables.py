"""Points 500 to 502: tables."""

import itertools
import random
import unittest

from heldflows.tables import Table

ONE, TWO, THREE = (0, 1), (1, 1), (0, 2)


def table_of(*takes):
    """Returns a table that has taken these tuples of rows."""
    table = Table()
    for rows in takes:
        table.take(rows)
    return table


class TablesCase(unittest.TestCase):
    def looks(self, table, *rows):
        self.assertEqual(table.rows(), rows)
        births = {row[0]: row[2] for row in rows}
        for bucket in range(16):
            self.assertEqual(table.birth(bucket), births.get(bucket))


class TableTest(TablesCase):
    def test_a_table_without_rows(self):
        self.looks(Table())
        self.looks(table_of(()))
        for bucket in range(16):
            self.assertIsNone(Table().birth(bucket))

    def test_kinds_of_values(self):
        table = Table()
        self.assertIsNone(table.take(((3, 1, ONE),)))
        self.assertIs(type(table.rows()), tuple)
        self.assertIs(type(table.rows()[0]), tuple)
        self.assertIs(type(table.birth(3)), tuple)
        self.assertIsNone(table.forget())
        self.assertIs(type(table.rows()), tuple)

    def test_rows_in_ascending_order_of_the_buckets(self):
        rows = tuple((bucket, 20 - bucket, (bucket % 6, 1)) for bucket in range(16))
        self.looks(table_of(rows), *rows)
        self.looks(table_of(rows[::-1]), *rows)
        drawn = list(rows)
        random.Random(1).shuffle(drawn)
        self.looks(table_of(tuple(drawn)), *rows)
        self.looks(table_of(rows[9:12], (), rows[2:3]), *(rows[2:3] + rows[9:12]))

    def test_a_version_of_zero(self):
        self.looks(table_of(((0, 0, ONE),)), (0, 0, ONE))
        self.looks(table_of(((0, 0, ONE), (0, 0, TWO))), (0, 0, ONE))

    def test_greater_versions(self):
        self.looks(table_of(((3, 1, ONE),), ((3, 2, TWO),)), (3, 2, TWO))
        self.looks(table_of(((3, 1, ONE), (3, 2, TWO))), (3, 2, TWO))
        self.looks(table_of(((3, 9, TWO), (3, 10, ONE), (3, 1000000, THREE))), (3, 1000000, THREE))

    def test_lesser_versions(self):
        self.looks(table_of(((3, 2, TWO),), ((3, 1, ONE),)), (3, 2, TWO))
        self.looks(table_of(((3, 2, ONE), (3, 1, TWO), (3, 0, THREE))), (3, 2, ONE))

    def test_equal_versions(self):
        for one, other in ((ONE, TWO), (TWO, ONE), (ONE, THREE), (THREE, ONE)):
            self.looks(table_of(((3, 2, one),), ((3, 2, other),)), (3, 2, one))
            self.looks(table_of(((3, 2, one), (3, 2, other))), (3, 2, one))

    def test_twice(self):
        rows = ((3, 2, ONE), (5, 1, TWO))
        self.looks(table_of(rows, rows), *rows)
        self.looks(table_of(rows + rows), *rows)

    def test_buckets_do_not_hinder_each_other(self):
        self.looks(
            table_of(((0, 9, ONE), (15, 1, TWO)), ((1, 2, THREE), (0, 8, TWO), (15, 2, ONE))),
            (0, 9, ONE), (1, 2, THREE), (15, 2, ONE))

    def test_any_order(self):
        rows = ((3, 1, ONE), (3, 2, TWO), (3, 3, THREE), (4, 1, TWO), (4, 0, ONE))
        for drawn in itertools.permutations(rows):
            self.looks(table_of(drawn), (3, 3, THREE), (4, 1, TWO))
            self.looks(table_of(*[(row,) for row in drawn + drawn]), (3, 3, THREE), (4, 1, TWO))

    def test_drawn_rows(self):
        choices = random.Random(4)
        for _ in range(200):
            table = Table()
            newest = {}
            for _ in range(30):
                row = (choices.randrange(16), choices.randrange(6), (choices.randrange(6), choices.randrange(1, 4)))
                table.take((row,))
                if row[0] not in newest or row[1] > newest[row[0]][1]:
                    newest[row[0]] = row
                self.looks(table, *[newest[bucket] for bucket in sorted(newest)])

    def test_forget(self):
        table = table_of(((3, 2, ONE), (5, 1, TWO)))
        table.forget()
        self.looks(table)
        # The versions are forgotten, too.
        table.take(((3, 1, TWO),))
        self.looks(table, (3, 1, TWO))
        table.forget()
        table.forget()
        self.looks(table)

    def test_tables_share_nothing(self):
        first, second = table_of(((3, 2, ONE),)), table_of(((3, 1, TWO),))
        self.looks(second, (3, 1, TWO))
        first.forget()
        self.looks(second, (3, 1, TWO))

    def test_rows_stay_as_they_were_returned(self):
        table = table_of(((3, 2, ONE),))
        rows = table.rows()
        table.take(((3, 3, TWO),))
        self.assertEqual(rows, ((3, 2, ONE),))


class PlaceTest(unittest.TestCase):
    def test_names_are_defined_in_their_file(self):
        self.assertEqual(Table.__module__, "heldflows.tables")
        for name in ("take", "birth", "rows", "forget"):
            self.assertIn(name, vars(Table))


if __name__ == "__main__":
    unittest.main()
