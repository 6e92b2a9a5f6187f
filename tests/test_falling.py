"""[59] One row that decides, [60] lesser bounds and more units, [61] where choices turn."""

import itertools
import random
import unittest

from helpers import (cases_within, crossing_cases, error_of, large_case, meaning_of, safe_by_trying, without_unit)
from neverregret.falling import are_lesser, deciding_row, turning_bound, turning_units, worse_by_row
from neverregret.safe import is_safe, safe_pairs, unit_kinds, worse_kinds
from neverregret.stocks import bounds_after, unit_put
from neverregret.tables import Table, accepted, takers

TABLE = Table(("a", "j", "k"), (("t", (1, 2)), ("u", (0, 2))))
LINE = Table(("a", "b"), (("p", (0,)), ("q", (0, 1))))


class DecidingTest(unittest.TestCase):
    def test_examples(self):
        self.assertEqual((1,), deciding_row(TABLE, (1, 1, 1), (None, 1), 1))
        self.assertEqual((), worse_by_row(TABLE, (1, 1, 1), (None, 1), 1))
        self.assertEqual((0, 2), worse_by_row(TABLE, (1, 1, 1), (None, 2), 1))

    def test_rows(self):
        table = Table(("a", "b", "c"), (("n", ()), ("p", (0,)), ("q", (0, 1)), ("r", (1, 2)), ("s", (2,))))
        self.assertEqual((1,) * 3 + (2,) * 7, deciding_row(table, (3, 4, 5), (None,) * 5, 2))
        self.assertEqual((1,) * 2 + (2,) * 7, deciding_row(table, (3, 4, 5), (None, 2, 8, 0, 9), 2))
        self.assertEqual((3,) * 9 + (4,) * 5, deciding_row(table, (3, 4, 5), (1, 1, 1, 9, 6), 0))
        self.assertEqual((1,) + (4,) * 5, deciding_row(table, (3, 4, 5), (1, 1, 1, 9, 6), 1))
        self.assertEqual((), deciding_row(table, (3, 4, 5), (None, 0, 0, 0, 0), 0))
        self.assertEqual((), deciding_row(Table(("a",), ()), (3,), (), 0))
        # the row of a kind without units is there as well
        self.assertEqual((1,) * 3 + (2,) * 7, deciding_row(table, (3, 4, 0), (None,) * 5, 2))

    def test_long_rows(self):
        self.assertEqual((0,) * 400, deciding_row(LINE, (400, 1), (None, None), 1))
        self.assertEqual((0,) * 399, deciding_row(LINE, (400, 1), (399, None), 1))
        wide = Table(tuple("abcdefgh"), (("p", tuple(range(7))), ("q", tuple(range(7))), ("r", (7,))))
        self.assertEqual((0,) * 2800 + (1,) * 400, deciding_row(wide, (400,) * 8, (None, 400, None), 7))
        self.assertEqual(tuple(range(7)), worse_by_row(wide, (400,) * 8, (None, 400, None), 7))
        self.assertEqual((), worse_by_row(wide, (400,) * 8, (400, 400, None), 7))

    def test_by_trying(self):
        many = 0
        for table, stock, bounds in cases_within(140, 590) + crossing_cases(50, 591):
            most_of = meaning_of(table)
            pairs = safe_by_trying(table, stock, bounds)
            for kind in unit_kinds(stock):
                row = deciding_row(table, stock, bounds, kind)
                found = worse_by_row(table, stock, bounds, kind)
                # needed for the row, and just those that are not safe against the kind
                if len(row) < 9:
                    self.assertEqual(tuple(other for other in unit_kinds(stock)
                                           if most_of(without_unit(stock, other), row) < most_of(stock, row)), found)
                self.assertEqual(tuple(other for other in unit_kinds(stock) if (other, kind) not in pairs), found)
                many += len(found) > 0
        self.assertGreater(many, 50)

    def test_kinds_without_units(self):
        for stock, kind in (((1, 0, 1), 1), ((0, 0, 0), 0), ((400, 400, 0), 2)):
            self.assertEqual(("Refused", "unit"), error_of(worse_by_row, TABLE, stock, (None, 1), kind))
        self.assertEqual((2,), worse_by_row(TABLE, (0, 1, 1), (None, None), 1))

    def test_large(self):
        rng = random.Random(592)
        for _ in range(30):
            table, stock, bounds = large_case(rng)
            for kind in unit_kinds(stock):
                self.assertEqual(worse_kinds(table, stock, bounds, kind), worse_by_row(table, stock, bounds, kind))


class LesserTest(unittest.TestCase):
    def test_are_lesser(self):
        for bounds, others, expected in (
                ((), (), True), ((1, 2), (1, 2), True), ((0, 2), (1, 2), True), ((2, 2), (1, 2), False),
                ((1, 3), (1, 2), False), ((1, 2), (None, None), True), ((None, 2), (None, 2), True),
                ((None, 2), (400, 2), False), ((400, 2), (None, 2), True), ((0, None), (1, 0), False),
                ((0, 1), (1, 0), False), ((None,), (None,), True), ((0,), (0,), True), ((None,), (0,), False)):
            self.assertIs(expected, are_lesser(bounds, others))

    def test_stays_safe(self):
        rng = random.Random(600)
        gained = 0
        for table, stock, bounds in cases_within(120, 601) + crossing_cases(60, 602):
            pairs = set(safe_by_trying(table, stock, bounds))
            lesser = tuple(rng.choice((0, 1, 2, 3)) if bound is None else rng.randint(0, bound) for bound in bounds)
            self.assertTrue(are_lesser(lesser, bounds))
            behind = set(safe_pairs(table, stock, lesser))
            self.assertTrue(pairs <= behind)
            gained += pairs < behind
            for kind in range(len(table.kinds)):
                more = safe_pairs(table, unit_put(stock, kind), bounds)
                self.assertTrue(pairs <= set(more))
            for request in range(len(table.types)):
                if bounds[request] != 0:
                    self.assertTrue(pairs <= set(safe_pairs(table, stock, bounds_after(bounds, request))))
                    self.check_served(table, stock, bounds, pairs, request)
        self.assertGreater(gained, 30)

    def check_served(self, table, stock, bounds, pairs, request):
        """Check which pairs stay safe if a request gets a unit."""
        for kind in accepted(table, request):
            if stock[kind]:
                left = without_unit(stock, kind)
                behind = safe_pairs(table, left, bounds_after(bounds, request))
                for one, other in pairs:
                    if left[one] and left[other] and set(takers(table, kind)) <= set(takers(table, other)):
                        self.assertIn((one, other), behind)

    def test_served_can_be_otherwise(self):
        self.assertTrue(is_safe(TABLE, (1, 1, 1), (None, 1), 0, 1))
        self.assertFalse(is_safe(TABLE, (1, 1, 0), (None, 1), 0, 1))


class TurningTest(unittest.TestCase):
    def test_examples(self):
        self.assertEqual(2, turning_bound(TABLE, (1, 1, 1), (None, 1), 0, 1, 1))
        self.assertEqual(0, turning_units(TABLE, (1, 1, 1), (None, 1), 0, 1, 2))

    def test_bounds_by_trying(self):
        numbers = none = 0
        for table, stock, bounds in cases_within(100, 610) + crossing_cases(50, 611):
            for one, other in itertools.product(unit_kinds(stock), repeat=2):
                for request in range(len(table.types)):
                    safe = [is_safe(table, stock, bounds[:request] + (bound,) + bounds[request + 1:], one, other)
                            for bound in list(range(sum(stock) + 3)) + [None]]
                    found = turning_bound(table, stock, bounds, one, other, request)
                    if found is None:
                        none += 1
                        self.assertTrue(all(safe))
                    else:
                        numbers += found > 0
                        # from it on it is never safe
                        self.assertEqual([True] * found + [False] * (len(safe) - found), safe)
        self.assertGreater(min(numbers, none), 30)

    def test_units_by_trying(self):
        numbers = none = 0
        for table, stock, bounds in cases_within(60, 612) + crossing_cases(40, 613):
            for one, other in itertools.product(unit_kinds(stock), repeat=2):
                for kind in range(len(table.kinds)):
                    least = 1 if kind in (one, other) else 0
                    safe = [is_safe(table, stock[:kind] + (units,) + stock[kind + 1:], bounds, one, other)
                            for units in list(range(least, 9)) + [399, 400]]
                    found = turning_units(table, stock, bounds, one, other, kind)
                    if found is None:
                        none += 1
                        self.assertTrue(all(safe))
                    elif found == 400:
                        self.assertFalse(any(safe))
                    else:
                        numbers += 1
                        self.assertLess(found, 9)
                        many = found - least + 1
                        self.assertEqual([False] * many + [True] * (len(safe) - many), safe)
        self.assertGreater(min(numbers, none), 30)

    def test_bounds_above_400(self):
        table = Table(("a", "b", "c"), (("p", (0, 1)), ("q", (2,))))
        self.assertEqual(800, turning_bound(table, (400, 400, 1), (0, 0), 0, 2, 0))
        self.assertEqual(800, turning_bound(table, (400, 400, 1), (None, None), 1, 2, 0))
        self.assertEqual(401, turning_bound(table, (400, 1, 1), (3, 0), 1, 2, 0))
        self.assertEqual(0, turning_bound(table, (400, 400, 1), (None, 0), 0, 2, 1))
        self.assertEqual(0, turning_bound(table, (400, 400, 1), (800, 0), 0, 2, 1))
        self.assertIsNone(turning_bound(table, (400, 400, 1), (799, 0), 0, 2, 1))

    def test_bounds_that_do_not_count(self):
        # a type that accepts the other kind, or one by which nothing changes
        self.assertEqual(0, turning_bound(LINE, (1, 1), (1, 5), 0, 1, 1))
        self.assertIsNone(turning_bound(LINE, (1, 1), (0, 5), 0, 1, 1))
        self.assertEqual(1, turning_bound(LINE, (1, 1), (0, 5), 0, 1, 0))
        self.assertEqual(400, turning_bound(LINE, (400, 1), (None, 5), 0, 1, 0))
        self.assertIsNone(turning_bound(LINE, (1, 1), (0, 5), 1, 0, 0))
        self.assertIsNone(turning_bound(LINE, (1, 1), (None, None), 0, 0, 0))

    def test_units_at_the_edges(self):
        self.assertEqual(400, turning_units(LINE, (1, 1), (None, None), 0, 1, 0))
        self.assertEqual(400, turning_units(LINE, (1, 1), (400, None), 0, 1, 0))
        self.assertEqual(399, turning_units(LINE, (1, 1), (399, None), 0, 1, 0))
        self.assertEqual(1, turning_units(LINE, (5, 1), (1, None), 0, 1, 0))
        self.assertIsNone(turning_units(LINE, (5, 1), (0, None), 0, 1, 0))
        # units of the other kind do not count
        self.assertEqual(400, turning_units(LINE, (1, 1), (1, None), 0, 1, 1))
        self.assertIsNone(turning_units(LINE, (2, 1), (1, None), 0, 1, 1))
        # the kind may have no unit now
        self.assertEqual(0, turning_units(TABLE, (1, 1, 0), (None, 1), 0, 1, 2))
        self.assertEqual(400, turning_units(TABLE, (1, 1, 0), (None, None), 0, 1, 2))

    def test_kinds_without_units(self):
        for one, other in ((0, 1), (1, 0), (1, 1), (2, 1), (1, 2)):
            for at in (0, 1):
                self.assertEqual(("Refused", "unit"), error_of(turning_bound, TABLE, (1, 0, 1), (None, 1), one, other, at))
            for kind in range(3):
                self.assertEqual(("Refused", "unit"),
                                 error_of(turning_units, TABLE, (1, 0, 1), (None, 1), one, other, kind))

    def test_large(self):
        rng = random.Random(614)
        for _ in range(12):
            table, stock, bounds = large_case(rng)
            for one, other in itertools.permutations(unit_kinds(stock)[:3], 2):
                for request in range(len(table.types)):
                    found = turning_bound(table, stock, bounds, one, other, request)
                    expected = {None: found is None}
                    if found is not None:
                        expected[found] = False
                    if found:
                        expected[found - 1] = True
                    for bound, safe in expected.items():
                        limits = bounds[:request] + (bound,) + bounds[request + 1:]
                        self.assertEqual(safe, is_safe(table, stock, limits, one, other))
                for kind in range(len(table.kinds)):
                    found = turning_units(table, stock, bounds, one, other, kind)
                    expected = {1 if kind in (one, other) else 0: found is None}
                    if found is not None:
                        expected[found] = False
                    if found != 400:
                        expected[400 if found is None else found + 1] = True
                    for units, safe in expected.items():
                        there = stock[:kind] + (units,) + stock[kind + 1:]
                        self.assertEqual(safe, is_safe(table, there, bounds, one, other))


if __name__ == "__main__":
    unittest.main()
