"""[37] One unit or request more or less, and what greatest servings give to whom."""

import random
import unittest

from helpers import all_servings, meaning_of, random_table, random_tables, served, without_unit
from neverregret.covers import cover_worth, greatest_cover, least_cover, least_covers
from neverregret.plain import is_serving
from neverregret.servings import most_by_ways
from neverregret.tables import Table, accepted, kinds_of_types
from neverregret.wanted import (needed_kinds, needed_types, possible_pairs, serving_with_pair, wanted_kinds,
                                welcome_types)

TABLE = Table(("l", "s"), (("any", (0, 1)), ("large", (0,)), ("small", (1,))))


def cases(many, seed, kinds=3, types=3, length=5):
    """Return small tables with a stock and a row each."""
    rng = random.Random(seed)
    found = []
    for table in random_tables(many, seed, kinds, types):
        stock = tuple(rng.choice((0, 1, 1, 2)) for _ in table.kinds)
        many_requests = rng.randint(0, length) if table.types else 0
        found.append((table, stock, tuple(rng.randrange(len(table.types)) for _ in range(many_requests))))
    return found


class WantedTest(unittest.TestCase):
    def all_four(self, *case):
        return needed_kinds(*case), wanted_kinds(*case), needed_types(*case), welcome_types(*case)

    def test_by_hand(self):
        self.assertEqual(((0, 1), (0, 1), (), ()), self.all_four(TABLE, (1, 1), (0, 1, 2)))
        # the small one is left over or wanted no more
        self.assertEqual(((0,), (), (0, 1), (0, 2)), self.all_four(TABLE, (1, 2), (0, 1)))
        self.assertEqual(((0,), (0,), (), (0, 2)), self.all_four(TABLE, (1, 1), (1, 1)))
        self.assertEqual(((), (0, 1), (), ()), self.all_four(TABLE, (0, 0), (0, 1)))
        self.assertEqual(((), (), (), (0, 1, 2)), self.all_four(TABLE, (2, 2), ()))

    def test_edges(self):
        self.assertEqual(((), (), (), ()), self.all_four(Table(("a",), ()), (400,), ()))
        empty = Table(("a", "b"), (("p", ()), ("q", (0,))))
        self.assertEqual(((0,), (), (1,), ()), self.all_four(empty, (1, 1), (0, 1)))
        self.assertEqual(((), (0,), (), ()), self.all_four(empty, (0, 1), (1, 0)))
        self.assertEqual((), possible_pairs(empty, (0, 1), (0, 1)))
        self.assertEqual(((1, 0),), possible_pairs(empty, (3, 1), (0, 1)))
        self.assertEqual((), possible_pairs(Table(("a",), ()), (400,), ()))

    def test_by_trying(self):
        for table, stock, row in cases(300, 370) + cases(80, 371, 4, 5):
            most_of = meaning_of(table)
            number = most_of(stock, row)
            kinds = range(len(table.kinds))
            needed = tuple(kind for kind in kinds if stock[kind] and most_of(without_unit(stock, kind), row) < number)
            self.assertEqual(needed, needed_kinds(table, stock, row))
            wanted = tuple(kind for kind in kinds
                           if most_of(stock[:kind] + (stock[kind] + 1,) + stock[kind + 1:], row) > number)
            self.assertEqual(wanted, wanted_kinds(table, stock, row))
            there = sorted(set(row))
            fewer = {request: row[:row.index(request)] + row[row.index(request) + 1:] for request in there}
            self.assertEqual(tuple(request for request in there if most_of(stock, fewer[request]) < number),
                             needed_types(table, stock, row))
            self.assertEqual(tuple(request for request in range(len(table.types))
                                   if most_of(stock, row + (request,)) > number), welcome_types(table, stock, row))

    def test_by_covers(self):
        for table, stock, row in cases(250, 372) + cases(60, 373, 4, 5):
            greatest, least = greatest_cover(table, stock, row), least_cover(table, stock, row)
            self.assertEqual(tuple(kind for kind in kinds_of_types(table, greatest) if stock[kind]),
                             needed_kinds(table, stock, row))
            self.assertEqual(kinds_of_types(table, least), wanted_kinds(table, stock, row))
            self.assertEqual(tuple(sorted(set(row) - set(least))), needed_types(table, stock, row))
            self.assertEqual(tuple(request for request in range(len(table.types)) if request not in greatest),
                             welcome_types(table, stock, row))

    def test_pairs_by_trying(self):
        missing = 0
        for table, stock, row in cases(200, 374) + cases(250, 375, 3, 4, 3):
            servings = all_servings(table, stock, row)
            number = max(map(served, servings))
            greatest = [serving for serving in servings if served(serving) == number]
            pairs = {(request, kind) for serving in greatest for request, kind in zip(row, serving) if kind is not None}
            self.assertEqual(tuple(sorted(pairs)), possible_pairs(table, stock, row))
            covers = least_covers(table, stock, row)
            for request in sorted(set(row)):
                for kind in accepted(table, request):
                    if stock[kind]:
                        cover = any(request not in lot and kind in kinds_of_types(table, lot) for lot in covers)
                        self.assertEqual(cover, (request, kind) not in pairs)
                        missing += cover
            needed = needed_types(table, stock, row)
            for place, request in enumerate(row):
                always = all(serving[place] is not None for serving in greatest)
                self.assertEqual(request in needed, always)
                for kind in range(len(table.kinds)):
                    found = serving_with_pair(table, stock, row, place, kind)
                    expected = [serving for serving in greatest if serving[place] == kind]
                    if expected:
                        self.assertIn(found, expected)
                    else:
                        self.assertIsNone(found)
        self.assertGreater(missing, 15)

    def test_serving_with_pair(self):
        self.assertEqual((1, 0), serving_with_pair(TABLE, (1, 1), (0, 1), 0, 1))
        self.assertIsNone(serving_with_pair(TABLE, (1, 1), (0, 1), 0, 0))
        self.assertIsNone(serving_with_pair(TABLE, (0, 1), (0, 1), 0, 0))
        self.assertIsNone(serving_with_pair(TABLE, (2, 2), (0, 1), 1, 1))

    def test_large(self):
        rng = random.Random(376)
        for _ in range(8):
            table = random_table(rng, 8, 12)
            if not table.types:
                continue
            stock = tuple(rng.choice((0, 1, 20, 50, 400)) for _ in table.kinds)
            row = tuple(rng.randrange(len(table.types)) for _ in range(400))
            number = most_by_ways(table, stock, row)
            for kind in needed_kinds(table, stock, row):
                self.assertEqual(number - 1, most_by_ways(table, without_unit(stock, kind), row))
            self.assertEqual(number, cover_worth(table, stock, row, greatest_cover(table, stock, row)))
            pairs = possible_pairs(table, stock, row)
            for place in rng.sample(range(400), 8):
                for kind in range(len(table.kinds)):
                    serving = serving_with_pair(table, stock, row, place, kind)
                    if (row[place], kind) in pairs:
                        self.assertTrue(is_serving(table, stock, row, serving))
                        self.assertEqual((kind, number), (serving[place], served(serving)))
                    else:
                        self.assertIsNone(serving)


if __name__ == "__main__":
    unittest.main()
