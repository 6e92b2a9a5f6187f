"""[8], [9], [10]: units, bounds, counts; stocks, rows and bounds of joined tables; m stays the same."""

import random
import unittest

from helpers import error_of, most, random_tables
from neverregret.plain import most_served, row_within
from neverregret.remade import piece_table, pieces, renamed_table
from neverregret.stocks import (bounds_after, bounds_moved, row_counts, row_moved, stock_moved, unit_put, unit_taken,
                                units_in)
from neverregret.tables import Table, joined_kinds, joined_types

TABLE = Table(("barn", "cabin", "yurt"), (("dry", (0, 1)), ("tall", (0, 1)), ("warm", (2,))))


class UnitsTest(unittest.TestCase):
    def test_units(self):
        self.assertEqual([0, 2, 7, 5], [units_in((2, 0, 5), kinds) for kinds in ((), (0, 1), (0, 1, 2), (2,))])
        self.assertEqual((2, 0, 4), unit_taken((2, 0, 5), 2))
        self.assertEqual((1, 0, 5), unit_taken((2, 0, 5), 0))
        self.assertEqual((0,), unit_taken(stock=(1,), kind=0))
        self.assertEqual((2, 1, 5), unit_put((2, 0, 5), 1))
        self.assertEqual((400,), unit_put((399,), 0))
        self.assertEqual((0, 399), unit_taken((0, 400), 1))

    def test_refused(self):
        self.assertEqual(("Refused", "unit"), error_of(unit_taken, (2, 0, 5), 1))
        self.assertEqual(("Refused", "units"), error_of(unit_put, (400, 0), 0))
        self.assertEqual(("Refused", "units"), error_of(unit_put, (0, 401), 1))
        self.assertEqual((401, 1), unit_put((401, 0), 1))

    def test_bounds_after(self):
        self.assertEqual((2, None, 0), bounds_after((3, None, 0), 0))
        self.assertEqual((3, None, 0), bounds_after((3, None, 0), 1))
        self.assertEqual(("Refused", "bound"), error_of(bounds_after, (3, None, 0), 2))
        self.assertEqual((0,), bounds_after((1,), 0))

    def test_counts(self):
        self.assertEqual((2, 0, 1), row_counts(TABLE, (0, 2, 0)))
        self.assertEqual((0, 0, 0), row_counts(TABLE, ()))
        self.assertEqual((), row_counts(Table(("a",), ()), ()))


class MovedTest(unittest.TestCase):
    def test_moved(self):
        self.assertEqual((5, 5), stock_moved((0, 0, 1), (2, 3, 5)))
        self.assertEqual((800,), stock_moved((0, 0), (400, 400)))
        self.assertEqual((0, 1, 0), row_moved((0, 0, 1), (1, 2, 0)))
        self.assertEqual((5, 5), bounds_moved((0, 0, 1), (2, 3, 5)))
        self.assertEqual([(None, 5), (None, 5), (5, None), (None, None)],
                         [bounds_moved((0, 0, 1), bounds) for bounds in
                          ((2, None, 5), (None, 0, 5), (2, 3, None), (None, None, None))])
        self.assertEqual((2, 4), bounds_moved((0, 1, 0), (1, 4, 1)))
        self.assertEqual(((), ()), (row_moved((), ()), bounds_moved((), ())))

    def test_most_stays_the_same(self):
        rng = random.Random(20)
        for table in random_tables(150, 21, 4, 4):
            stock = tuple(rng.randint(0, 2) for _ in table.kinds)
            row = tuple(rng.randrange(len(table.types)) for _ in range(rng.randint(0, 5))) if table.types else ()
            bounds = tuple(rng.choice((None, 0, 1, 2, 5)) for _ in table.types)
            expected = most(table, stock, row)
            joined, places = joined_kinds(table)
            self.assertEqual(expected, most_served(joined, stock_moved(places, stock), row))
            joined, places = joined_types(table)
            self.assertEqual(expected, most_served(joined, stock, row_moved(places, row)))
            if row_within(table, bounds, row):
                self.assertTrue(row_within(joined, bounds_moved(places, bounds), row_moved(places, row)))
            names = rng.sample("stuvwxyz", len(table.kinds) + len(table.types))
            renamed, kinds, types = renamed_table(table, tuple(names[:len(table.kinds)]),
                                                  tuple(names[len(table.kinds):]))
            other = tuple(stock[kinds.index(kind)] for kind in range(len(stock)))
            self.assertEqual(expected, most_served(renamed, other, tuple(types[request] for request in row)))
            total = 0
            for some_kinds, some_types in pieces(table):
                if some_kinds:
                    part = tuple(some_types.index(request) for request in row if request in some_types)
                    some_stock = tuple(stock[kind] for kind in some_kinds)
                    total += most_served(piece_table(table, (some_kinds, some_types)), some_stock, part)
            self.assertEqual(expected, total)


if __name__ == "__main__":
    unittest.main()
