"""[56] The fewest requests that tell two kinds apart, and the least row that does."""

import itertools
import random
import unittest

from helpers import (apart_by_trying, cases_within, crossing_cases, error_of, large_case, meaning_of, rows_up_to,
                     subsets, without_unit)
from neverregret.fewestrows import fewest_requests, least_regret_row, types_within
from neverregret.full import full_lots
from neverregret.plain import row_within
from neverregret.regretrows import is_regret_row, tells_apart
from neverregret.safe import is_safe, unit_kinds
from neverregret.tables import Table, kinds_of_types

TABLE = Table(("attic", "cellar"), (("any", (0, 1)), ("dark", (1,)), ("light", (0,))))


class FewestTest(unittest.TestCase):
    def test_examples(self):
        self.assertEqual(2, fewest_requests(TABLE, (2, 1), (1, 1, 2), 0, 1))
        self.assertEqual((2, 2), least_regret_row(TABLE, (2, 1), (1, 1, 2), 0, 1))
        self.assertEqual(1, fewest_requests(TABLE, (2, 1), (1, 1, 2), 1, 0))
        self.assertEqual((1,), least_regret_row(TABLE, (2, 1), (1, 1, 2), 1, 0))

    def test_types_within(self):
        table = Table(("a", "b", "c"), (("n", ()), ("p", (0, 1)), ("q", (1,)), ("r", (0, 1, 2)), ("s", (2,))))
        self.assertEqual((0, 1, 2), types_within(table, (0, 1)))
        self.assertEqual((0,), types_within(table, ()))
        self.assertEqual((0, 2, 4), types_within(table, (1, 2)))
        self.assertEqual((0, 1, 2, 3, 4), types_within(table, (0, 1, 2)))
        self.assertEqual((), types_within(Table(("a",), ()), (0,)))

    def test_by_trying(self):
        there = lacking = 0
        cases = cases_within(150, 560) + crossing_cases(60, 561) + cases_within(40, 562, 4, 4, (0, 1, 1, 2))
        for table, stock, bounds in cases:
            most_of = meaning_of(table)
            rows = rows_up_to(bounds, sum(stock) + 1)
            for one, other in itertools.product(unit_kinds(stock), repeat=2):
                apart = [row for row in rows
                         if most_of(without_unit(stock, one), row) < most_of(without_unit(stock, other), row)]
                fewest = min(map(len, apart), default=None)
                self.assertEqual(fewest, fewest_requests(table, stock, bounds, one, other))
                self.assertEqual(min((row for row in apart if len(row) == fewest), default=None),
                                 least_regret_row(table, stock, bounds, one, other))
                there += fewest is not None
                lacking += fewest is None
                units = [sum(stock[kind] for kind in kinds_of_types(table, lot))
                         for lot in full_lots(table, stock, bounds)
                         if one in kinds_of_types(table, lot) and other not in kinds_of_types(table, lot)]
                self.assertEqual(min(units, default=None), fewest)
        self.assertGreater(min(there, lacking), 100)

    def test_least_of_all_sequences(self):
        for table, stock, bounds in crossing_cases(60, 563):
            for one, other in itertools.permutations(unit_kinds(stock), 2):
                least = least_regret_row(table, stock, bounds, one, other)
                if least is not None:
                    for row in itertools.product(range(len(table.types)), repeat=len(least)):
                        if row < least and row_within(table, bounds, row):
                            self.assertFalse(apart_by_trying(table, stock, one, other, row))

    def test_kinds_without_units(self):
        table = Table(("a", "b", "c"), (("p", (0, 1)), ("q", (1, 2))))
        for function in (fewest_requests, least_regret_row):
            for one, other in ((0, 1), (1, 0), (1, 1), (2, 1), (1, 2)):
                self.assertEqual(("Refused", "unit"), error_of(function, table, (1, 0, 400), (None, 1), one, other))
            self.assertIsNone(function(table, (1, 0, 400), (None, 1), 0, 0))

    def test_bounds(self):
        for units in (1, 400):
            stock = (units, units)
            for bounds in ((None, None, None), (0, 0, units), (400, 400, 400)):
                self.assertEqual(units, fewest_requests(TABLE, stock, bounds, 0, 1))
                self.assertEqual((2,) * units, least_regret_row(TABLE, stock, bounds, 0, 1))
            for bounds in ((None, None, 0), (0, 0, 0), (400, 400, units - 1)):
                self.assertIsNone(fewest_requests(TABLE, stock, bounds, 0, 1))
                self.assertIsNone(least_regret_row(TABLE, stock, bounds, 0, 1))

    def test_kinds_without_units_beside(self):
        # the type accepts a kind without units, which takes nothing from it
        table = Table(("a", "b", "c"), (("p", (0, 2)), ("q", (1,))))
        self.assertEqual(2, fewest_requests(table, (2, 1, 0), (None, 0), 0, 1))
        self.assertEqual((0, 0), least_regret_row(table, (2, 1, 0), (None, 0), 0, 1))
        self.assertIsNone(fewest_requests(table, (2, 1, 1), (2, 0), 0, 1))
        self.assertEqual(3, fewest_requests(table, (2, 1, 1), (3, 0), 0, 1))
        self.assertIsNone(fewest_requests(table, (2, 1, 1), (3, 0), 0, 2))

    def test_long_rows(self):
        table = Table(("a", "b", "c"), (("p", (0,)), ("q", (0, 1)), ("r", (2,))))
        self.assertEqual(800, fewest_requests(table, (400, 400, 1), (None, 400, 0), 1, 2))
        self.assertIsNone(fewest_requests(table, (400, 400, 1), (None, 399, 0), 1, 2))
        self.assertIsNone(fewest_requests(table, (400, 400, 1), (399, 399, 0), 1, 2))
        self.assertEqual((0,) * 400 + (1,) * 400, least_regret_row(table, (400, 400, 1), (None, 400, 0), 1, 2))
        # of a longer and a shorter one of the types, the first one comes as often as it can
        self.assertEqual((0,) * 5 + (1,) * 5, least_regret_row(table, (5, 5, 1), (9, None, 0), 1, 2))
        self.assertEqual((0,) * 2 + (1,) * 8, least_regret_row(table, (5, 5, 1), (2, None, 0), 1, 2))

    def test_large(self):
        rng = random.Random(564)
        there = 0
        for _ in range(30):
            table, stock, bounds = large_case(rng)
            for one, other in itertools.permutations(unit_kinds(stock), 2):
                many = fewest_requests(table, stock, bounds, one, other)
                row = least_regret_row(table, stock, bounds, one, other)
                self.assertEqual(is_safe(table, stock, bounds, one, other), many is None)
                self.assertEqual(many is None, row is None)
                if row is not None:
                    there += 1
                    self.assertEqual(many, len(row))
                    self.assertEqual(tuple(sorted(row)), row)
                    self.assertTrue(is_regret_row(table, stock, bounds, one, other, row))
                    # without any one of its requests it tells nothing
                    for request in set(row):
                        at = row.index(request)
                        self.assertFalse(tells_apart(table, stock, one, other, row[:at] + row[at + 1:]))
        self.assertGreater(there, 30)

    def test_lots_of_lots(self):
        # with lesser bounds only more kinds together can be used up
        table = Table(tuple("abcdefgh"), tuple((name, lot) for name, lot in zip("pqrstu", subsets(range(3))[1:7])))
        stock = (3, 4, 5, 1, 1, 1, 1, 1)
        for limit, expected in ((None, 3), (3, 3), (2, 12), (1, None)):
            self.assertEqual(expected, fewest_requests(table, stock, (limit,) * 6, 0, 7))


if __name__ == "__main__":
    unittest.main()
