"""[50] Kinds that are safe, and [51] their order."""

import itertools
import random
import unittest

from helpers import cases_within, error_of, large_case, safe_by_trying
from neverregret.full import greatest_full
from neverregret.safe import handing_order, is_safe, safe_groups, safe_pairs, unit_kinds, worse_kinds
from neverregret.tables import Table, kinds_of_types
from neverregret.trials import never_worse_pairs

TABLE = Table(("attic", "cellar"), (("any", (0, 1)), ("dark", (1,)), ("light", (0,))))


class SafeTest(unittest.TestCase):
    def test_examples(self):
        self.assertEqual((1,), worse_kinds(TABLE, (2, 1), (0, 1, 1), 0))
        self.assertEqual((), worse_kinds(TABLE, (2, 1), (0, 1, 1), 1))
        self.assertEqual(((0, 0), (0, 1), (1, 1)), safe_pairs(TABLE, (2, 1), (0, 1, 1)))
        self.assertIs(True, is_safe(TABLE, (2, 1), (0, 1, 1), 0, 1))
        self.assertIs(False, is_safe(TABLE, (2, 1), (0, 1, 1), 1, 0))
        self.assertIs(True, is_safe(TABLE, (2, 1), (0, 1, 1), 0, 0))

    def test_unit_kinds(self):
        self.assertEqual((1, 3), unit_kinds((0, 400, 0, 1)))
        self.assertEqual((), unit_kinds((0, 0)))
        self.assertEqual((0,), unit_kinds((5,)))

    def test_by_trying(self):
        unsafe = both = 0
        for table, stock, bounds in cases_within(240, 500) + cases_within(60, 501, 4, 4, (0, 1, 1), most_units=4):
            pairs = safe_by_trying(table, stock, bounds)
            kinds = unit_kinds(stock)
            self.assertEqual(pairs, safe_pairs(table, stock, bounds))
            for other in kinds:
                worse = tuple(one for one in kinds if (one, other) not in pairs)
                self.assertEqual(worse, worse_kinds(table, stock, bounds, other))
                used_up = kinds_of_types(table, greatest_full(table, stock, bounds, other))
                self.assertEqual(worse, tuple(kind for kind in used_up if stock[kind]))
                for one in kinds:
                    self.assertIs((one, other) in pairs, is_safe(table, stock, bounds, one, other))
                unsafe += len(worse)
                both += len(kinds) - len(worse)
            if sum(stock):
                # rows with fewer requests than units are enough
                self.assertEqual(pairs, never_worse_pairs(table, stock, bounds))
        self.assertGreater(min(unsafe, both), 60)

    def test_order(self):
        for table, stock, bounds in cases_within(150, 510, 4, 4):
            pairs = safe_pairs(table, stock, bounds)
            kinds = unit_kinds(stock)
            for kind in kinds:
                self.assertIn((kind, kind), pairs)
            for one, other, third in itertools.product(kinds, repeat=3):
                if (one, other) in pairs and (other, third) in pairs:
                    self.assertIn((one, third), pairs)
            self.check_groups(kinds, pairs, safe_groups(table, stock, bounds))
            orders = [order for order in itertools.permutations(kinds)
                      if not any((later, first) in pairs and (first, later) not in pairs
                                 for first, later in itertools.combinations(order, 2))]
            self.assertEqual(min(orders), handing_order(table, stock, bounds))

    def check_groups(self, kinds, pairs, groups):
        self.assertEqual(kinds, tuple(sorted(kind for group in groups for kind in group)))
        self.assertEqual(groups, tuple(sorted(groups)))
        for group in groups:
            self.assertIsInstance(group, tuple)
            self.assertEqual(tuple(sorted(group)), group)
        for one, other in itertools.product(kinds, repeat=2):
            together = any(one in group and other in group for group in groups)
            self.assertEqual((one, other) in pairs and (other, one) in pairs, together)

    def test_order_is_not_that_of_the_numbers(self):
        # the last kind has no takers and beats all, the first one has most
        table = Table(("a", "b", "c"), (("p", (0,)), ("q", (0, 1))))
        self.assertEqual((2, 1, 0), handing_order(table, (1, 1, 1), (None, None)))
        self.assertEqual(((0, 0), (1, 0), (1, 1), (2, 0), (2, 1), (2, 2)), safe_pairs(table, (1, 1, 1), (None, None)))
        self.assertEqual(((0,), (1,), (2,)), safe_groups(table, (1, 1, 1), (None, None)))
        self.assertEqual((0, 1, 2), handing_order(table, (1, 1, 1), (0, 0)))
        self.assertEqual(((0, 1, 2),), safe_groups(table, (1, 1, 1), (0, 0)))
        self.assertEqual((2, 0), handing_order(table, (1, 0, 1), (None, None)))

    def test_bounds(self):
        for units in (1, 400):
            stock = (units, units)
            self.assertEqual(((0, 0), (1, 1)), safe_pairs(TABLE, stock, (None, None, None)))
            self.assertEqual(((0, 0), (0, 1), (1, 0), (1, 1)), safe_pairs(TABLE, stock, (0, 0, 0)))
            self.assertEqual(((0, 0), (0, 1), (1, 0), (1, 1)), safe_pairs(TABLE, stock, (None, 0, 0)))
            self.assertEqual(((0, 0), (0, 1), (1, 0), (1, 1)), safe_pairs(TABLE, stock, (400, units - 1, units - 1)))
            self.assertEqual(((0, 0), (1, 1)), safe_pairs(TABLE, stock, (400, units, units)))
            self.assertEqual(((0, 0), (1, 0), (1, 1)), safe_pairs(TABLE, stock, (400, units - 1, units)))
            self.assertEqual(((0, 0), (0, 1), (1, 1)), safe_pairs(TABLE, stock, (0, units, units - 1)))

    def test_edges(self):
        none = Table(("a", "b"), ())
        self.assertEqual((((0, 0), (0, 1), (1, 0), (1, 1)), ((0, 1),), (0, 1), ()),
                         (safe_pairs(none, (3, 1), ()), safe_groups(none, (3, 1), ()), handing_order(none, (3, 1), ()),
                          worse_kinds(none, (3, 1), (), 1)))
        self.assertEqual(((), (), ()), (safe_pairs(TABLE, (0, 0), (None,) * 3), safe_groups(TABLE, (0, 0), (None,) * 3),
                                        handing_order(TABLE, (0, 0), (None,) * 3)))
        empty = Table(("a", "b", "c"), (("p", ()), ("q", (0,))))
        self.assertEqual((0,), worse_kinds(empty, (400, 400, 0), (None, None), 1))
        self.assertEqual((), worse_kinds(empty, (400, 400, 0), (None, 399), 1))
        self.assertEqual((), worse_kinds(empty, (400, 400, 0), (None, None), 0))

    def test_kinds_without_units(self):
        table = Table(("a", "b", "c"), (("p", (0, 1)), ("q", (1, 2))))
        for stock in ((1, 0, 1), (400, 0, 400)):
            self.assertEqual(("Refused", "unit"), error_of(worse_kinds, table, stock, (None, 1), 1))
            for one, other in ((0, 1), (1, 0), (1, 1), (2, 1), (1, 2)):
                self.assertEqual(("Refused", "unit"), error_of(is_safe, table, stock, (None, 1), one, other))
            self.assertEqual({0, 2}, {kind for pair in safe_pairs(table, stock, (None, 1)) for kind in pair})
            self.assertNotIn(1, handing_order(table, stock, (None, 1)))
            for other in (0, 2):
                self.assertNotIn(1, worse_kinds(table, stock, (None, None), other))

    def test_large(self):
        rng = random.Random(502)
        for _ in range(30):
            table, stock, bounds = large_case(rng)
            pairs = safe_pairs(table, stock, bounds)
            kinds = unit_kinds(stock)
            order = handing_order(table, stock, bounds)
            self.assertEqual(kinds, tuple(sorted(order)))
            for first, later in itertools.combinations(order, 2):
                self.assertFalse((later, first) in pairs and (first, later) not in pairs)
            for one, other in itertools.product(kinds, repeat=2):
                self.assertEqual((one, other) in pairs, one not in worse_kinds(table, stock, bounds, other))


if __name__ == "__main__":
    unittest.main()
