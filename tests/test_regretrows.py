"""[55] Rows that tell kinds apart."""

import itertools
import random
import unittest

from helpers import (SINGLES, Unfriendly, all_servings, apart_by_trying, cases_within, crossing_cases, error_of,
                     large_case, odd_values, regrets_by_trying, rows_up_to, safe_by_trying, without_unit)
from neverregret.plain import is_serving, row_within
from neverregret.regretrows import is_regret_row, regret_row, tells_apart
from neverregret.safe import is_safe, unit_kinds
from neverregret.servings import greatest_serving, most_by_ways
from neverregret.tables import Table, accepted

TABLE = Table(("attic", "cellar"), (("any", (0, 1)), ("dark", (1,)), ("light", (0,))))
CASE = (TABLE, (2, 1), (1, 1, 2), 0, 1)


class RowsTest(unittest.TestCase):
    def test_examples(self):
        self.assertIs(True, is_regret_row(*CASE, (2, 2)))
        self.assertIs(False, is_regret_row(*CASE, (2, 1, 2)))
        self.assertIs(True, tells_apart(TABLE, (2, 1), 0, 1, (2, 2)))
        self.assertIs(False, tells_apart(TABLE, (2, 1), 1, 0, (2, 2)))
        self.assertIs(False, tells_apart(TABLE, (2, 1), 0, 0, (2, 2)))
        self.assertIs(False, tells_apart(TABLE, (2, 1), 0, 1, ()))

    def test_by_trying(self):
        there = lacking = 0
        for table, stock, bounds in cases_within(130, 550) + crossing_cases(60, 551):
            pairs = safe_by_trying(table, stock, bounds)
            for one, other in itertools.product(unit_kinds(stock), repeat=2):
                row = regret_row(table, stock, bounds, one, other)
                # a row is there exactly if the first kind is not safe against the other
                self.assertEqual((one, other) in pairs, row is None)
                if row is None:
                    lacking += 1
                else:
                    there += 1
                    self.assertTrue(row_within(table, bounds, row))
                    self.assertTrue(apart_by_trying(table, stock, one, other, row))
                    self.assertEqual(len(row), most_by_ways(table, without_unit(stock, other), row))
                    self.check_regret(table, stock, one, other, row)
        self.assertGreater(min(there, lacking), 60)

    def check_regret(self, table, stock, one, other, row):
        """Check that whoever hands out the one kind first has a regret in the row that comes then."""
        for request in range(len(table.types)):
            if one in accepted(table, request) and other in accepted(table, request) and len(row) <= 4:
                for serving in all_servings(table, without_unit(stock, one), row):
                    self.assertTrue(None in serving)
                    places = regrets_by_trying(table, stock, (request,) + row, (one,) + serving)
                    self.assertTrue(places)

    def test_telling_by_trying(self):
        for table, stock, bounds in cases_within(50, 552) + crossing_cases(25, 553):
            kinds = unit_kinds(stock)
            for row in rows_up_to((None,) * len(table.types), min(4, sum(stock) + 1)):
                turned = row[::-1]
                for one, other in itertools.product(kinds, repeat=2):
                    apart = apart_by_trying(table, stock, one, other, row)
                    self.assertIs(apart, tells_apart(table, stock, one, other, turned))
                    self.assertIs(apart and row_within(table, bounds, row),
                                  is_regret_row(table, stock, bounds, one, other, turned))

    def test_kinds_without_units(self):
        table = Table(("a", "b", "c"), (("p", (0, 1)), ("q", (1, 2))))
        for one, other in ((0, 1), (1, 0), (1, 1), (2, 1), (1, 2)):
            self.assertEqual(("Refused", "unit"), error_of(tells_apart, table, (1, 0, 400), one, other, (0,)))
            self.assertEqual(("Refused", "unit"), error_of(regret_row, table, (1, 0, 400), (None, 1), one, other))
            # before all else
            for value in ((), (0,), None, "x", (9,), (True,), Unfriendly()):
                self.assertEqual(("Refused", "unit"),
                                 error_of(is_regret_row, table, (1, 0, 400), (None, 1), one, other, value))

    def test_other_values(self):
        for value in odd_values() + ([2, 2], (2, 2.0), (2, 3), (2, -1), (2, True), "22", ((2, 2),), (2, 2, None)):
            self.assertIs(False, is_regret_row(*CASE, value))
        for item in SINGLES:
            self.assertFalse(is_regret_row(TABLE, (2, 1), (None, None, None), 0, 1, (2, 2, item)))
        other = Table(("a", "b"), (("p", (0,)), ("q", (0,))))
        self.assertTrue(is_regret_row(other, (2, 1), (None, None), 0, 1, (0, 1)))
        self.assertFalse(is_regret_row(other, (2, 1), (None, None), 0, 1, (False, True)))

    def test_within_bounds(self):
        self.assertTrue(is_regret_row(TABLE, (2, 1), (0, 0, 2), 0, 1, (2, 2)))
        self.assertFalse(is_regret_row(TABLE, (2, 1), (0, 0, 1), 0, 1, (2, 2)))
        self.assertTrue(is_regret_row(TABLE, (2, 1), (0, 0, None), 0, 1, (2,) * 7))
        self.assertFalse(is_regret_row(TABLE, (2, 1), (0, 0, 6), 0, 1, (2,) * 7))

    def test_rows_of_any_length(self):
        for length in (400, 401, 3000):
            self.assertTrue(is_regret_row(TABLE, (400, 1), (None, None, None), 0, 1, (2,) * length))
            self.assertTrue(tells_apart(TABLE, (400, 400), 0, 1, (2,) * length))
            self.assertTrue(is_regret_row(TABLE, (400, 1), (None, None, None), 1, 0, (1,) * length))
        self.assertFalse(is_regret_row(TABLE, (400, 1), (None, None, 400), 0, 1, (2,) * 401))
        self.assertFalse(is_regret_row(TABLE, (400, 1), (None, None, None), 0, 1, (2,) * 399))

    def test_bounds(self):
        self.assertIsNone(regret_row(TABLE, (400, 400), (None, None, 399), 0, 1))
        self.assertEqual((2,) * 400, regret_row(TABLE, (400, 400), (None, None, 400), 0, 1))
        self.assertEqual((2,) * 400, regret_row(TABLE, (400, 400), (None, None, None), 0, 1))
        self.assertIsNone(regret_row(TABLE, (1, 1), (None, None, 0), 0, 1))
        self.assertIsNone(regret_row(Table(("a", "b"), ()), (1, 1), (), 0, 1))
        self.assertIsNone(regret_row(TABLE, (1, 1), (None, None, None), 0, 0))

    def test_large(self):
        rng = random.Random(554)
        there = 0
        for _ in range(30):
            table, stock, bounds = large_case(rng)
            for one, other in itertools.product(unit_kinds(stock), repeat=2):
                row = regret_row(table, stock, bounds, one, other)
                self.assertEqual(is_safe(table, stock, bounds, one, other), row is None)
                if row is not None:
                    there += 1
                    self.assertTrue(is_regret_row(table, stock, bounds, one, other, row))
                    if len(row) <= 400:
                        serving = greatest_serving(table, without_unit(stock, other), row)
                        self.assertTrue(is_serving(table, without_unit(stock, other), row, serving))
                        self.assertNotIn(None, serving)
        self.assertGreater(there, 30)


if __name__ == "__main__":
    unittest.main()
