"""[16] to [18]: servings, the most served, regrets, found by trying."""

import itertools
import random
import unittest

from helpers import (SINGLES, Unfriendly, all_servings, all_tables, error_of, most, odd_values, random_tables,
                     regrets_by_trying, served)
from neverregret.plain import (is_serving, kept_places, left_stock, lefts_of, most_served, regrets, row_within,
                               servable, serving_without, sorted_rows)
from neverregret.tables import Table

TABLE = Table(("l", "s"), (("any", (0, 1)), ("large", (0,)), ("small", (1,))))
ONE = Table(("a",), (("t", (0,)),))


def random_cases(many, seed, most_units=2, longest=5):
    """Return tables with a stock and a row each."""
    rng = random.Random(seed)
    cases = []
    for table in random_tables(many, seed):
        stock = tuple(rng.randint(0, most_units) for _ in table.kinds)
        length = rng.randint(0, longest) if table.types else 0
        cases.append((table, stock, tuple(rng.randrange(len(table.types)) for _ in range(length))))
    return cases


class ServingsTest(unittest.TestCase):
    def test_right(self):
        for serving in ((0, None, 1), (1, 0, None), (None, None, None), (None, 0, 1)):
            self.assertTrue(is_serving(TABLE, (1, 1), (0, 1, 2), serving))
        self.assertTrue(is_serving(TABLE, (0, 0), (), ()))
        self.assertTrue(is_serving(TABLE, (400, 0), (1,) * 400, (0,) * 400))

    def test_wrong(self):
        for serving in ((0, 0, 1), (1, 1, None), (0, None, 0), (None, 0), (None, 0, 1, None), [0, None, 1]):
            self.assertFalse(is_serving(TABLE, (1, 1), (0, 1, 2), serving), serving)
        self.assertFalse(is_serving(TABLE, (399, 400), (1,) * 400, (0,) * 400))
        for value in odd_values():
            self.assertFalse(is_serving(TABLE, (1, 1), (0, 1, 2), value))
        for item in SINGLES[:2] + SINGLES[3:] + (2, -1, (), (0,)):
            self.assertFalse(is_serving(TABLE, (9, 9), (0,), (item,)))
            self.assertFalse(is_serving(TABLE, (9, 9), (0, 0, 0), (1, item, Unfriendly())))

    def test_lefts(self):
        self.assertEqual((0, 1), left_stock((1, 2), (0, None, 1)))
        self.assertEqual((1, 2), left_stock((1, 2), ()))
        self.assertEqual(((0, 0), (0, 1), (1, 0), (1, 1)), lefts_of(TABLE, (1, 1), (0, 0)))
        self.assertEqual(((3, 4),), lefts_of(TABLE, (3, 4), ()))

    def test_by_trying_all(self):
        for table, stock, row in random_cases(120, 22):
            servings = all_servings(table, stock, row)
            for value in itertools.product((None,) + tuple(range(len(stock))), repeat=min(len(row), 4)):
                self.assertEqual(value in all_servings(table, stock, row[:4]), is_serving(table, stock, row[:4], value))
            lefts = {left_stock(stock, serving) for serving in servings}
            for left in lefts:
                self.assertTrue(all(0 <= units <= whole for units, whole in zip(left, stock)))
            self.assertEqual(tuple(sorted(lefts)), lefts_of(table, stock, row))
            self.assertEqual(lefts_of(table, stock, row), lefts_of(table, stock, row[::-1]))
            self.assertEqual(max(served(serving) for serving in servings), most_served(table, stock, row))
            self.assertEqual(most(table, stock, row) == len(row), servable(table, stock, row))


class RowsTest(unittest.TestCase):
    def test_within(self):
        self.assertTrue(row_within(TABLE, (None, 0, 1), (0, 0, 2)))
        self.assertFalse(row_within(TABLE, (None, 0, 1), (1,)))
        self.assertFalse(row_within(TABLE, (None, 0, 1), (2, 0, 2)))
        self.assertTrue(row_within(TABLE, (0, 0, 0), ()))
        self.assertTrue(row_within(ONE, (400,), (0,) * 400))
        self.assertFalse(row_within(ONE, (399,), (0,) * 400))

    def test_sorted_rows(self):
        self.assertEqual(((), (0,), (2,), (0, 0), (0, 2)), sorted_rows(TABLE, (None, 0, 1), 2))
        self.assertEqual(((),), sorted_rows(TABLE, (None, None, None), 0))
        self.assertEqual(((),), sorted_rows(TABLE, (0, 0, 0), 400))
        self.assertEqual(((),), sorted_rows(Table(("a",), ()), (), 400))
        self.assertEqual(tuple((0,) * size for size in range(401)), sorted_rows(ONE, (None,), 400))
        self.assertEqual(tuple((0,) * size for size in range(401)), sorted_rows(ONE, (400,), 400))
        self.assertEqual(((), (0,), (0, 0)), sorted_rows(ONE, (2,), 400))

    def test_by_the_words(self):
        rng = random.Random(23)
        for table in random_tables(60, 24, 2, 4):
            bounds = tuple(rng.choice((None, 0, 1, 2, 3)) for _ in table.types)
            length = rng.randint(0, 4)
            expected = []
            for size in range(length + 1):
                for row in itertools.combinations_with_replacement(range(len(table.types)), size):
                    if row_within(table, bounds, row):
                        expected.append(row)
            self.assertEqual(tuple(expected), sorted_rows(table, bounds, length))

    def test_size(self):
        many = Table(("a",), tuple((name, ()) for name in "abcdefghijkl"))
        # 2,000 is 2 * 4 * 5 * 5 * 10, and 2,001 is 3 * 23 * 29
        just = tuple(bound - 1 for bound in (2, 4, 5, 5, 10)) + (0,) * 7
        self.assertEqual(2000, len(sorted_rows(many, just, 400)))
        self.assertEqual(2000, len(sorted_rows(many, just, 22)))
        more = (2, 22, 28) + (0,) * 9
        self.assertEqual(("Refused", "size"), error_of(sorted_rows, many, more, 400))
        self.assertEqual(2000, len(sorted_rows(many, more, 51)))
        two = Table(("a",), (("t", ()), ("u", ())))
        self.assertEqual(61 * 62 // 2 + 61 + 1, len(sorted_rows(two, (None, None), 61)))
        self.assertEqual(("Refused", "size"), error_of(sorted_rows, two, (None, None), 62))
        self.assertEqual(("Refused", "size"), error_of(sorted_rows, many, (None,) * 12, 400))
        self.assertEqual(2000, len(sorted_rows(two, (4, 399), 403)))
        self.assertEqual(("Refused", "size"), error_of(sorted_rows, two, (4, 400), 404))


class SmallTest(unittest.TestCase):
    def test_just_small(self):
        # (r + 1) * 400 * 25 with r = 1 is 20,000
        stock = (399, 24)
        for row in ((), (0,)):
            for function, extra in ((lefts_of, ()), (most_served, ()), (servable, ()), (kept_places, ()),
                                    (serving_without, ()), (regrets, ((0,) * len(row),))):
                self.assertIsNone(error_of(function, TABLE, stock, row, *extra))
        for stock, row in (((399, 24), (0, 0)), ((400, 24), (0,)), ((399, 25), (0,))):
            for function, extra in ((lefts_of, ()), (most_served, ()), (servable, ()), (kept_places, ()),
                                    (serving_without, ()), (regrets, ((0,) * len(row),))):
                self.assertEqual(("Refused", "size"), error_of(function, TABLE, stock, row, *extra))
        # 3 * 59 * 113 is 20,001
        self.assertEqual(("Refused", "size"), error_of(lefts_of, TABLE, (58, 112), (0, 0)))
        self.assertIsNone(error_of(lefts_of, TABLE, (58, 112), (0,)))
        self.assertEqual(0, most_served(Table(("a",), (("t", ()),)), (48,), (0,) * 400))
        self.assertEqual(48, most_served(ONE, (48,), (0,) * 400))
        self.assertEqual(("Refused", "size"), error_of(most_served, ONE, (49,), (0,) * 400))

    def test_long_rows(self):
        row = (0, 1, 2) * 133 + (0,)
        stock = (6, 6)
        serving = serving_without(TABLE, stock, row)
        self.assertEqual(12, served(serving))
        self.assertEqual((), regrets(TABLE, stock, row, serving))
        self.assertEqual(tuple(range(12)), kept_places(TABLE, stock, row))


class RegretsTest(unittest.TestCase):
    def test_example(self):
        self.assertEqual(2, most_served(TABLE, (1, 1), (0, 1, 2)))
        self.assertEqual((0, 1), kept_places(TABLE, (1, 1), (0, 1, 2)))
        self.assertEqual((1,), regrets(TABLE, (1, 1), (0, 1, 2), (0, None, 1)))

    def test_edges(self):
        self.assertEqual(((), (), ()), (regrets(TABLE, (1, 1), (), ()), kept_places(TABLE, (1, 1), ()),
                                        serving_without(TABLE, (1, 1), ())))
        self.assertEqual((), kept_places(TABLE, (0, 0), (0, 1)))
        self.assertEqual((None, None), serving_without(TABLE, (0, 0), (0, 1)))
        self.assertEqual((0, 1, 2), regrets(TABLE, (2, 1), (0, 1, 2), (None, None, None)))

    def test_by_trying_all_servings(self):
        for table, stock, row in random_cases(150, 25):
            kept = kept_places(table, stock, row)
            calm = serving_without(table, stock, row)
            self.assertTrue(is_serving(table, stock, row, calm))
            without = 0
            for serving in all_servings(table, stock, row):
                expected = regrets_by_trying(table, stock, row, serving)
                self.assertEqual(expected, regrets(table, stock, row, serving))
                # no regrets exactly if as many of each beginning are served as can be
                ends = range(len(row) + 1)
                self.assertEqual(not expected, all(served(serving[:end]) == most(table, stock, row[:end])
                                                   for end in ends))
                if not expected:
                    without += 1
                    self.assertEqual(kept, tuple(at for at, kind in enumerate(serving) if kind is not None))
            self.assertGreater(without, 0)
            self.assertEqual((), regrets_by_trying(table, stock, row, calm))
            self.assertEqual(tuple(at for at in range(len(row)) if most(table, stock, row[:at + 1])
                                   > most(table, stock, row[:at])), kept)


class MoreTest(unittest.TestCase):
    def test_one_unit_or_request_more(self):
        for table, stock, row in random_cases(80, 26, 2, 4):
            few = most_served(table, stock, row)
            for kind in range(len(stock)):
                more = stock[:kind] + (stock[kind] + 1,) + stock[kind + 1:]
                adds = most_served(table, more, row) - few
                self.assertIn(adds, (0, 1))
                for other in range(len(stock)):
                    besides = stock[:other] + (stock[other] + 1,) + stock[other + 1:]
                    both = besides[:kind] + (besides[kind] + 1,) + besides[kind + 1:]
                    self.assertLessEqual(most_served(table, both, row) - most_served(table, besides, row), adds)
                for request in range(len(table.types)):
                    longer = row + (request,)
                    self.assertIn(most_served(table, stock, longer) - few, (0, 1))
                    self.assertGreaterEqual(most_served(table, more, longer) - most_served(table, stock, longer), adds)

    def test_only_counts_matter(self):
        for table in all_tables(2, 2):
            for row in itertools.product(range(2), repeat=3):
                self.assertEqual(most_served(table, (1, 1), tuple(sorted(row))), most_served(table, (1, 1), row))


if __name__ == "__main__":
    unittest.main()
