"""Of [38]: servings joined, and servings with both places and units."""

import random
import unittest

from helpers import all_servings, random_tables, subsets
from neverregret.exchanges import joined_serving, serving_with_both
from neverregret.plain import is_serving
from neverregret.tables import Table

TABLE = Table(("l", "s"), (("any", (0, 1)), ("large", (0,)), ("small", (1,))))
CHAIN = Table(tuple("abcdefgh"), tuple(zip("pqrstuvw", ((at,) if at == 7 else (at, at + 1) for at in range(8)))))


def cases(many, seed, length=5):
    """Return small tables with a stock and a row each."""
    rng = random.Random(seed)
    found = []
    for table in random_tables(many, seed, 3, 3):
        stock = tuple(rng.choice((0, 1, 1, 2)) for _ in table.kinds)
        count = rng.randint(0, length) if table.types else 0
        found.append((table, stock, tuple(rng.randrange(len(table.types)) for _ in range(count))))
    return found


class JoinedTest(unittest.TestCase):
    def check(self, table, stock, row, one, other):
        joined = joined_serving(one, other)
        self.assertTrue(is_serving(table, stock, row, joined))
        for place, kind in enumerate(joined):
            self.assertIn(kind, (one[place], other[place]))
            self.assertTrue(kind is not None or one[place] is None)
        for kind in range(len(table.kinds)):
            self.assertGreaterEqual(joined.count(kind), other.count(kind))

    def test_there_always_is_one(self):
        rng = random.Random(380)
        for table, stock, row in cases(160, 381):
            servings = all_servings(table, stock, row)
            for _ in range(25):
                self.check(table, stock, row, rng.choice(servings), rng.choice(servings))

    def test_edges(self):
        self.assertEqual((), joined_serving((), ()))
        self.assertEqual((None, None), joined_serving((None, None), (None, None)))
        self.assertEqual((0, None), joined_serving((0, None), (None, None)))
        self.assertEqual((None, 1), joined_serving((None, None), (None, 1)))
        self.assertEqual((1, 0), joined_serving((0, None), (1, 0)))
        self.assertEqual((0, 1), joined_serving((0, 1), (1, 0)))

    def test_long_chains(self):
        # each place has to go over to the other serving, one after another
        row = tuple(at for at in range(8) for _ in range(50))
        one = tuple(None if at == 7 else at + 1 for at in row)
        self.check(CHAIN, (50,) * 8, row, one, row)
        self.assertEqual(row, joined_serving(one, row))
        rng = random.Random(382)
        for _ in range(10):
            order = list(range(400))
            rng.shuffle(order)
            mixed = tuple(row[at] for at in order)
            other = tuple(kind if rng.random() < 0.7 else None for kind in mixed)
            self.check(CHAIN, (50,) * 8, mixed, tuple(None if at == 7 else at + 1 for at in mixed), other)


class BothTest(unittest.TestCase):
    def test_by_trying(self):
        rng = random.Random(383)
        there = lacking = 0
        for table, stock, row in cases(120, 384, 4):
            servings = all_servings(table, stock, row)
            for _ in range(12):
                places = rng.choice(subsets(range(len(row))))
                units = tuple(rng.choice((0, 0, 1, 2)) for _ in stock)
                with_places = [one for one in servings if all(one[at] is not None for at in places)]
                with_units = [one for one in servings if all(one.count(k) >= many for k, many in enumerate(units))]
                found = serving_with_both(table, stock, row, places, units)
                right = [one for one in with_places if one in with_units]
                self.assertEqual(bool(with_places and with_units), bool(right))
                if right:
                    there += 1
                    self.assertIn(found, right)
                else:
                    lacking += 1
                    self.assertIsNone(found)
        self.assertGreater(min(there, lacking), 100)

    def test_edges(self):
        self.assertEqual((0, 1), serving_with_both(TABLE, (1, 1), (1, 2), (0, 1), (1, 1)))
        self.assertIsNone(serving_with_both(TABLE, (1, 1), (1, 2), (), (2, 0)))
        self.assertIsNone(serving_with_both(TABLE, (5, 1), (1, 2), (), (2, 0)))
        self.assertIsNone(serving_with_both(TABLE, (0, 1), (1, 2), (0,), (0, 0)))
        self.assertIsNone(serving_with_both(TABLE, (0, 1), (1, 2), (), (1000, 0)))
        none = Table(("a",), ())
        self.assertEqual(((), None), (serving_with_both(none, (1,), (), (), (0,)),
                                      serving_with_both(none, (1,), (), (), (1,))))
        self.assertEqual((None,), serving_with_both(Table(("a",), (("t", ()),)), (1,), (0,), (), (0,)))

    def test_large(self):
        row = (0,) * 200 + (1,) * 200
        found = serving_with_both(TABLE, (200, 200), row, tuple(range(400)), (200, 200))
        self.assertEqual((1,) * 200 + (0,) * 200, found)
        self.assertIsNone(serving_with_both(TABLE, (200, 200), row, (), (201, 0)))
        found = serving_with_both(TABLE, (400, 400), row, tuple(range(0, 400, 2)), (300, 100))
        self.assertTrue(is_serving(TABLE, (400, 400), row, found))
        self.assertTrue(found.count(0) >= 300 and found.count(1) >= 100 and None not in found[::2])


if __name__ == "__main__":
    unittest.main()
