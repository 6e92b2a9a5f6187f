"""[21] Never worse, found by trying rows."""

import random
import unittest

from helpers import error_of, most, random_tables
from neverregret.plain import sorted_rows
from neverregret.tables import Table
from neverregret.trials import first_worse_row, never_worse, never_worse_pairs

TABLE = Table(("l", "s"), (("any", (0, 1)), ("large", (0,)), ("small", (1,))))


def less(stock, kind):
    """Return the stock with a unit less of a kind."""
    return tuple(units - (at == kind) for at, units in enumerate(stock))


def is_worse(table, stock, one, other, row):
    """Return whether a row is served worse without a unit of the one kind, by trying all servings."""
    return most(table, less(stock, one), row) < most(table, less(stock, other), row)


def cases(many, seed):
    """Return small tables with a stock and bounds each."""
    rng = random.Random(seed)
    found = []
    for table in random_tables(many, seed, 3, 3):
        stock = tuple(rng.choice((0, 1, 1, 2)) for _ in table.kinds)
        if 0 < sum(stock) <= 4:
            found.append((table, stock, tuple(rng.choice((None, 0, 1, 2)) for _ in table.types)))
    return found


class TrialsTest(unittest.TestCase):
    def test_examples(self):
        self.assertEqual((1,), first_worse_row(TABLE, (1, 1), (0, 1, 0), 0, 1))
        self.assertEqual(((0, 0), (1, 0), (1, 1)), never_worse_pairs(TABLE, (1, 1), (0, 1, 0)))
        self.assertIs(False, never_worse(TABLE, (1, 1), (0, 1, 0), 0, 1))
        self.assertIs(True, never_worse(TABLE, (1, 1), (0, 1, 0), 1, 0))

    def test_by_trying(self):
        for table, stock, bounds in cases(110, 210):
            kinds = [kind for kind, units in enumerate(stock) if units]
            rows = sorted_rows(table, bounds, sum(stock) - 1)
            longer = sorted_rows(table, bounds, min(sum(stock) + 1, 4))
            pairs = []
            for one in kinds:
                for other in kinds:
                    worse = [row for row in rows if is_worse(table, stock, one, other, row)]
                    self.assertEqual(worse[0] if worse else None, first_worse_row(table, stock, bounds, one, other))
                    self.assertEqual(not worse, never_worse(table, stock, bounds, one, other))
                    # rows with fewer requests than units are enough
                    self.assertEqual(not worse, not any(is_worse(table, stock, one, other, row) for row in longer))
                    pairs += [(one, other)] if not worse else []
            self.assertEqual(tuple(pairs), never_worse_pairs(table, stock, bounds))
            for kind in kinds:
                self.assertIn((kind, kind), pairs)
            for one, other in pairs:
                for third in kinds:
                    self.assertTrue((other, third) not in pairs or (one, third) in pairs)

    def test_kinds_without_a_unit(self):
        for one, other in ((0, 1), (1, 0), (1, 1)):
            for function in (first_worse_row, never_worse):
                self.assertEqual(("Refused", "unit"), error_of(function, TABLE, (1, 0), (None,) * 3, one, other))
                # this is told ahead of the size
                self.assertEqual(("Refused", "unit"), error_of(function, TABLE, (400, 0), (None,) * 3, one, other))
        self.assertEqual(((0, 0),), never_worse_pairs(TABLE, (1, 0), (None,) * 3))
        self.assertEqual((), never_worse_pairs(TABLE, (0, 0), (None,) * 3))
        self.assertEqual((), never_worse_pairs(Table(("a",), ()), (0,), ()))

    def test_edges(self):
        # a kind without takers is never worse, whatever comes
        table = Table(("a", "b"), (("p", ()), ("q", (0,))))
        self.assertEqual((1,), first_worse_row(table, (1, 1), (None, None), 0, 1))
        self.assertIsNone(first_worse_row(table, (1, 1), (None, None), 1, 0))
        self.assertIsNone(first_worse_row(table, (1, 1), (None, 0), 0, 1))
        self.assertEqual(((0, 0), (0, 1), (1, 0), (1, 1)), never_worse_pairs(Table(("a", "b"), ()), (2, 3), ()))
        self.assertEqual((1, 1, 1), first_worse_row(table, (3, 1), (None, None), 0, 1))

    def test_small(self):
        # 20 units, and 20 times (10 * 5 * 5 * 4) is 20,000
        table = Table(("a", "b", "c", "d"), (("p", (0,)), ("q", (0, 1)), ("r", (2, 3))))
        bounds = (9, 1, 1)
        self.assertEqual((0,) * 9, first_worse_row(table, (9, 4, 4, 3), bounds, 0, 1))
        self.assertEqual(((0, 0), (1, 0)), never_worse_pairs(table, (9, 4, 4, 3), bounds)[:2])
        for stock in ((9, 4, 4, 4), (10, 4, 4, 3), (9, 4, 5, 3)):
            self.assertEqual(("Refused", "size"), error_of(first_worse_row, table, stock, (0, 0, 0), 0, 1))
            self.assertEqual(("Refused", "size"), error_of(never_worse, table, stock, (0, 0, 0), 0, 1))
            self.assertEqual(("Refused", "size"), error_of(never_worse_pairs, table, stock, (0, 0, 0)))
        alone = Table(("a",), (("p", (0,)),))
        self.assertTrue(never_worse(alone, (140,), (None,), 0, 0))
        self.assertEqual(((0, 0),), never_worse_pairs(alone, (140,), (None,)))
        self.assertEqual(("Refused", "size"), error_of(never_worse_pairs, alone, (141,), (None,)))

    def test_too_many_rows(self):
        # with no more than 19 requests of three types there are 1,540 rows, of four 8,855
        table = Table(("a", "b", "c", "d"), (("p", (0,)), ("q", (0, 1)), ("r", (2, 3)), ("s", ())))
        self.assertEqual((0,) * 9, first_worse_row(table, (9, 4, 4, 3), (None, None, None, 0), 0, 1))
        for function in (first_worse_row, never_worse):
            self.assertEqual(("Refused", "size"), error_of(function, table, (9, 4, 4, 3), (None,) * 4, 0, 1))
        self.assertEqual(("Refused", "size"), error_of(never_worse_pairs, table, (9, 4, 4, 3), (None,) * 4))


if __name__ == "__main__":
    unittest.main()
