"""[28], [29] The rule, and [32] every order."""

import itertools
import random
import unittest

from helpers import all_servings, all_tables, error_of, most, random_tables, regrets_by_trying, served
from neverregret.anyorder import row_orders, served_in_orders, unlike_orders
from neverregret.court import is_forest
from neverregret.forests import places_of
from neverregret.games import some_rule
from neverregret.leastkinds import least_kinds
from neverregret.plain import is_serving, left_stock
from neverregret.reader import read_table
from neverregret.rule import fewest_takers, left_by_rule, served_by_rule
from neverregret.tables import Table, accepted, takers

TABLE = read_table("bike: lane road\ncart: road\nskate: lane park road")
CROSSED = read_table("both: a b\nleft: a\nright: b")
FORESTS = [table for table in random_tables(200, 280, 3, 3) if is_forest(table) and table.types]


def random_row(rng, table, length):
    """Return a row with so many requests at most."""
    return tuple(rng.randrange(len(table.types)) for _ in range(rng.randint(0, length)))


class RuleTest(unittest.TestCase):
    def test_examples(self):
        self.assertEqual((1, 0, 2, 2, None), served_by_rule(TABLE, (1, 1, 2), (2, 0, 1, 2, 1)))
        self.assertEqual((0, 0, 0), left_by_rule(TABLE, (1, 1, 2), (2, 0, 1, 2, 1)))

    def test_edges(self):
        table = Table(("a", "b", "c"), (("p", ()), ("q", (0, 1, 2)), ("r", (0,))))
        self.assertIsNone(fewest_takers(table, (3, 3, 3), 0))
        self.assertEqual([1, 2, 0, None], [fewest_takers(table, stock, 1) for stock in
                                           ((1, 1, 1), (1, 0, 1), (1, 0, 0), (0, 0, 0))])
        self.assertEqual(((), (3, 3, 3)), (served_by_rule(table, (3, 3, 3), ()), left_by_rule(table, (3, 3, 3), ())))
        self.assertEqual(((1,) * 400, (0, 0, 400)), (served_by_rule(table, (0, 400, 400), (1,) * 400),
                                                     left_by_rule(table, (0, 400, 400), (1,) * 400)))
        none = Table(("a",), ())
        self.assertEqual(((), (5,)), (served_by_rule(none, (5,), ()), left_by_rule(none, (5,), ())))

    def test_by_words(self):
        rng = random.Random(281)
        for table in random_tables(150, 282, 4, 4):
            if not table.types:
                continue
            stock = tuple(rng.randint(0, 2) for _ in table.kinds)
            row = random_row(rng, table, 6)
            left, expected = stock, []
            for request in row:
                kinds = [kind for kind in accepted(table, request) if left[kind]]
                kind = min(kinds, key=lambda kind: (len(takers(table, kind)), kind)) if kinds else None
                self.assertEqual(kind, fewest_takers(table, left, request))
                expected.append(kind)
                left = left_stock(stock, tuple(expected))
            self.assertEqual(tuple(expected), served_by_rule(table, stock, row))
            self.assertEqual(left, left_by_rule(table, stock, row))
            self.assertTrue(is_serving(table, stock, row, tuple(expected)))

    def test_forests_never_regret(self):
        rng = random.Random(283)
        for table in FORESTS:
            stock = tuple(rng.randint(0, 2) for _ in table.kinds)
            row = random_row(rng, table, 5)
            serving = served_by_rule(table, stock, row)
            self.assertEqual((), regrets_by_trying(table, stock, row, serving))
            for end in range(len(row) + 1):
                self.assertEqual(most(table, stock, row[:end]), served(serving[:end]))

    def test_all_that_hand_out_least_kinds(self):
        rng = random.Random(284)
        for table in FORESTS:
            stock = tuple(rng.randint(0, 2) for _ in table.kinds)
            row = random_row(rng, table, 5)
            servings = [()]
            for request in row:
                longer = []
                for serving in servings:
                    left = left_stock(stock, serving)
                    at_hand = any(left[kind] for kind in accepted(table, request))
                    kinds = least_kinds(table, left, request) if at_hand else (None,)
                    self.assertTrue(kinds)
                    longer += [serving + (kind,) for kind in kinds]
                servings = longer
            self.assertIn(served_by_rule(table, stock, row), servings)
            lefts = {tuple(sum(left_stock(stock, serving)[kind] for kind in place) for place in places_of(table))
                     for serving in servings}
            self.assertEqual(1, len(lefts))
            for serving in servings:
                self.assertEqual((), regrets_by_trying(table, stock, row, serving))


class EveryOrderTest(unittest.TestCase):
    def test_examples(self):
        self.assertEqual((4,), served_in_orders(TABLE, (1, 1, 2), (2, 0, 1, 2, 1)))
        self.assertEqual(((1, 1), (0, 1), (1, 0)), unlike_orders(CROSSED))

    def test_orders_by_trying(self):
        for row in [row for size in range(6) for row in itertools.product(range(3), repeat=size)][::3]:
            self.assertEqual(tuple(sorted(set(itertools.permutations(row)))), row_orders(row))
        self.assertEqual(((),), row_orders(()))

    def test_size(self):
        # 45 * 44 is 1,980; 14 * 13 * 12 * 11 * 10 / 120 is 2,002
        row = (0,) * 43 + (1, 2)
        self.assertEqual(1980, len(row_orders(row)))
        self.assertEqual((2,), served_in_orders(CROSSED, (1, 1), (0,) * 43 + (1, 1)))
        self.assertEqual(400, len(row_orders((7,) + (3,) * 399)))
        table = read_table("any: a b\nfew: a")
        self.assertEqual((2,), served_in_orders(table, (1, 1), (0,) * 399 + (1,)))
        for wrong in ((0,) * 5 + (1,) * 9, (0,) * 44 + (1, 2), (0, 1) * 200, (0,) * 62 + (1,) * 338,
                      tuple(range(7)), tuple(range(12)) * 33):
            self.assertEqual(("Refused", "size"), error_of(row_orders, wrong))
            self.assertEqual(("Refused", "size"), error_of(served_in_orders, CROSSED, (1, 1), wrong))
        self.assertEqual(1001, len(row_orders((0,) * 4 + (1,) * 10)))
        # just 2,000 and 2,001 sequences come about with rows that are longer than rows that are passed
        self.assertEqual(2000, len(row_orders((1,) + (0,) * 1999)))
        self.assertEqual((1,), served_in_orders(CROSSED, (0, 1), (1,) * 1999 + (2,)))
        self.assertEqual(("Refused", "size"), error_of(row_orders, (1,) + (0,) * 2000))
        self.assertEqual(("Refused", "size"), error_of(served_in_orders, CROSSED, (0, 1), (1,) * 2000 + (2,)))

    def test_served_by_trying(self):
        rng = random.Random(320)
        for table in random_tables(60, 321, 3, 3):
            if not table.types:
                continue
            stock = tuple(rng.randint(0, 2) for _ in table.kinds)
            row = random_row(rng, table, 5)
            numbers = {served(served_by_rule(table, stock, order)) for order in itertools.permutations(row)}
            self.assertEqual(tuple(sorted(numbers)), served_in_orders(table, stock, row))
            if is_forest(table):
                self.assertEqual((most(table, stock, row),), served_in_orders(table, stock, row))

    def test_unlike_orders(self):
        tables = all_tables(2, 3) + all_tables(3, 3)[::5] + random_tables(200, 322, 5, 5)
        for table in tables:
            found = unlike_orders(table)
            self.assertEqual(is_forest(table), found is None)
            if found is not None:
                stock, row, turned = found
                self.assertEqual((2, 2, row[::-1]), (sum(stock), len(row), turned))
                self.assertEqual((1, 2), (served(served_by_rule(table, stock, row)),
                                          served(served_by_rule(table, stock, turned))))
                self.assertEqual((1, 2), served_in_orders(table, stock, row))
        self.assertIsNone(unlike_orders(Table(("a",), ())))

    def test_told_in_five_ways(self):
        for table in all_tables(2, 3) + all_tables(3, 2):
            stocks = [tuple(int(kind in pair) for kind in range(len(table.kinds)))
                      for pair in itertools.combinations(range(len(table.kinds)), 2)]
            rows = [row for size in range(4) for row in itertools.product(range(len(table.types)), repeat=size)]
            never = all(not regrets_by_trying(table, stock, row, served_by_rule(table, stock, row))
                        for stock in stocks for row in rows)
            same = all(len(served_in_orders(table, stock, row)) == 1 for stock in stocks for row in rows)
            plans = all(some_rule(table, stock, (1,) * len(table.types)) for stock in stocks)
            self.assertEqual([is_forest(table)] * 3, [never, same, plans])

    def test_some_rule_that_never_regrets(self):
        # with a crossing even trying all servings of the first request finds a row that regrets
        for kind in (0, 1, None):
            rows = [row for row in ((0,), (0, 1), (0, 2)) if all(
                regrets_by_trying(CROSSED, (1, 1), row, serving)
                for serving in all_servings(CROSSED, (1, 1), row) if serving[0] == kind)]
            self.assertTrue(rows)


if __name__ == "__main__":
    unittest.main()
