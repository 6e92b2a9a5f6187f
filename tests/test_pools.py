"""[67] Pools, and rules that serve unlike numbers if there are none."""

import itertools
import random
import unittest

from helpers import all_servings, all_tables, random_table, random_tables, served
from neverregret.days import is_day
from neverregret.games import all_orders, is_orders, served_by_orders
from neverregret.plain import left_stock
from neverregret.pools import are_pools, unlike_rules
from neverregret.returns import Steps, line_of
from neverregret.stays import day_lapses
from neverregret.tables import Table

TABLE = Table(("l", "s"), (("any", (0, 1)), ("large", (0,))))


def pools_by_words(table, stock):
    """Return whether any two kinds with units have equal takers or no common ones."""
    lots = [{at for at, (_, lot) in enumerate(table.types) if kind in lot}
            for kind, units in enumerate(stock) if units]
    return all(one == other or not one & other for one in lots for other in lots)


class PoolsTest(unittest.TestCase):
    def test_by_hand(self):
        self.assertIs(False, are_pools(TABLE, (1, 1)))
        # only kinds with units count
        self.assertIs(True, are_pools(TABLE, (1, 0)))
        self.assertIs(True, are_pools(TABLE, (0, 400)))
        self.assertIs(True, are_pools(Table(("a", "b"), ()), (1, 1)))
        self.assertIs(True, are_pools(Table(("a", "b", "c"), (("p", (0, 1)), ("q", (0, 1)), ("r", (2,)), ("s", ()))),
                                      (1, 2, 3)))
        self.assertIs(False, are_pools(Table(("a", "b"), (("p", (0, 1)), ("q", (1,)))), (1, 1)))

    def test_by_words(self):
        rng = random.Random(670)
        many = [0, 0]
        for table in all_tables(2, 2) + all_tables(2, 3) + all_tables(3, 2) + random_tables(200, 671, 4, 5):
            stock = tuple(rng.choice((0, 1, 2)) for _ in table.kinds)
            expected = pools_by_words(table, stock)
            many[expected] += 1
            self.assertIs(expected, are_pools(table, stock))
            # exactly then there are steps if all types return
            line = line_of(table, stock, tuple(range(len(table.types))))
            self.assertEqual(expected, isinstance(line, Steps))
            found = unlike_rules(table, stock)
            if expected:
                self.assertIsNone(found)
            else:
                self.check_unlike(table, stock, found)
        self.assertGreater(min(many), 50)

    def check_unlike(self, table, stock, found):
        self.assertIsInstance(found, tuple)
        row, one, other = found
        self.assertIsInstance(row, tuple)
        self.assertTrue(is_orders(table, one) and is_orders(table, other))
        self.assertTrue(all(0 <= request < len(table.types) for request in row))
        self.assertNotEqual(served(served_by_orders(table, stock, row, one)),
                            served(served_by_orders(table, stock, row, other)))

    def test_rules_serve_alike_in_pools(self):
        rng = random.Random(672)
        many = 0
        for table in random_tables(300, 673, 3, 3):
            stock = tuple(rng.choice((0, 1, 2)) for _ in table.kinds)
            if not pools_by_words(table, stock) or not table.types:
                continue
            many += 1
            orders = all_orders(table)
            for _ in range(5):
                row = tuple(rng.randrange(len(table.types)) for _ in range(5))
                servings = {tuple(kind is not None for kind in served_by_orders(table, stock, row, choice))
                            for choice in orders}
                self.assertEqual(1, len(servings))
        self.assertGreater(many, 50)

    def test_days_in_pools(self):
        """Servings that refuse only if no accepted unit is left serve the same places, without lapses."""
        rng = random.Random(674)
        many = 0
        for table in random_tables(200, 675, 3, 3):
            stock = tuple(rng.choice((0, 1, 1)) for _ in table.kinds)
            if not table.types or not pools_by_words(table, stock):
                continue
            day = ()
            for _ in range(6):
                gone = {place for word, place in day if word == "leaves"}
                there = [at for at, (word, _) in enumerate(day) if word == "comes" and at not in gone]
                leaves = there and rng.random() < 0.4
                day += (("leaves", rng.choice(there)) if leaves else ("comes", rng.randrange(len(table.types))),)
            self.assertTrue(is_day(table, tuple(range(len(table.types))), day))
            servings = self.greedy_servings(table, stock, day)
            self.assertEqual(1, len({tuple(kind is None for kind in serving) for serving in servings}))
            for serving in servings:
                self.assertEqual((), day_lapses(table, stock, day, serving))
            many += len(servings) > 1
        self.assertGreater(many, 20)

    def greedy_servings(self, table, stock, day):
        """Return all servings of a day that refuse only if no accepted unit is left."""
        present = [((), stock)]
        for word, number in day:
            behind = []
            for serving, left in present:
                if word == "comes":
                    kinds = [kind for kind in table.types[number][1] if left[kind]] or [None]
                    behind.extend((serving + (kind,), left_stock(left, (kind,))) for kind in kinds)
                else:
                    kind = serving[number]
                    back = left if kind is None else left[:kind] + (left[kind] + 1,) + left[kind + 1:]
                    behind.append((serving + (None,), back))
            present = behind
        return [serving for serving, _ in present]

    def test_units(self):
        for stock in ((1, 1), (400, 1), (1, 400), (400, 400)):
            self.check_unlike(TABLE, stock, unlike_rules(TABLE, stock))
        self.assertIsNone(unlike_rules(TABLE, (400, 0)))
        self.assertIsNone(unlike_rules(TABLE, (0, 0)))
        self.assertIsNone(unlike_rules(Table(("a",), ()), (3,)))

    def test_orders_have_kinds_without_units(self):
        table = Table(("a", "b", "c"), (("p", (0, 1, 2)), ("q", (0, 1)), ("r", ())))
        self.check_unlike(table, (0, 1, 1), unlike_rules(table, (0, 1, 1)))
        self.assertIsNone(unlike_rules(table, (1, 1, 0)))

    def test_large(self):
        rng = random.Random(676)
        for _ in range(25):
            table = random_table(rng, 8, 12)
            stock = tuple(rng.choice((0, 1, 399, 400)) for _ in table.kinds)
            self.assertIs(pools_by_words(table, stock), are_pools(table, stock))
            if not pools_by_words(table, stock):
                self.check_unlike(table, stock, unlike_rules(table, stock))

    def test_half_is_served_by_all(self):
        for table, stock in itertools.product((TABLE,), ((1, 1), (2, 1))):
            row, one, other = unlike_rules(table, stock)
            number = max(map(served, all_servings(table, stock, row)))
            for orders in (one, other):
                self.assertGreaterEqual(2 * served(served_by_orders(table, stock, row, orders)), number)


if __name__ == "__main__":
    unittest.main()
