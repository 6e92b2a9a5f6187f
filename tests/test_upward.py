"""[39], [40] Along the forest: overflows, room, bounds."""

import itertools
import random
import unittest

from helpers import random_tables
from neverregret.court import court, is_forest
from neverregret.forests import way_up
from neverregret.plain import most_served, sorted_rows
from neverregret.reader import read_table
from neverregret.tables import Table, accepted, kinds_of_types
from neverregret.upward import (dry_places, dry_types, is_enough, overflows, refused_count, room_for, spare_units,
                                worst_refused)

FOREST = court(read_table("bike: lane road\ncart: road\nskate: lane park road"))
FORESTS = [table for table in random_tables(400, 60, 4, 4) if is_forest(table)][:160]


def row_of(counts):
    """Return the ascending row with so many requests of each type."""
    return tuple(request for request, count in enumerate(counts) for _ in range(count))


class OverflowTest(unittest.TestCase):
    def test_examples(self):
        self.assertEqual((3, 2, 1), overflows(FOREST, (1, 0, 2), (2, 0, 2)))
        self.assertEqual(1, refused_count(FOREST, (1, 0, 2), (2, 0, 2)))
        self.assertEqual(1, room_for(FOREST, (1, 4, 2), (2, 0, 2), 1))

    def test_edges(self):
        self.assertEqual((0, 0, 0), overflows(FOREST, (0, 0, 0), (0, 0, 0)))
        self.assertEqual((400, 0, 400), overflows(FOREST, (0, 0, 0), (400, 0, 0)))
        self.assertEqual((800, 400, 1200), overflows(FOREST, (0, 0, 0), (400, 400, 400)))
        self.assertEqual((400, 400, 400), spare_units(FOREST, (400, 400, 400), (0, 0, 0)))
        none = court(Table(("a",), (("t", ()),)))
        self.assertEqual(((), (), 7), (overflows(none, (3,), (7,)), spare_units(none, (3,), (7,)),
                                       refused_count(none, (3,), (7,))))
        self.assertEqual(((), (0,), 0), (dry_places(none, (3,), (7,)), dry_types(none, (3,), (7,)),
                                         room_for(none, (3,), (7,), 0)))
        empty = court(Table(("a",), ()))
        self.assertEqual((0, 0, True), (refused_count(empty, (3,), ()), worst_refused(empty, (3,), ()),
                                        is_enough(empty, (3,), ())))

    def test_by_the_words(self):
        rng = random.Random(61)
        for table in FORESTS:
            forest = court(table)
            stock = tuple(rng.randint(0, 3) for _ in table.kinds)
            counts = tuple(rng.randint(0, 3) for _ in table.types)
            over, spare = overflows(forest, stock, counts), spare_units(forest, stock, counts)
            for place, kinds in enumerate(forest.places):
                wanted = sum(count for count, home in zip(counts, forest.homes) if home == place)
                wanted += sum(over[lower] for lower, higher in enumerate(forest.above) if higher == place)
                units = sum(stock[kind] for kind in kinds)
                self.assertEqual(max(0, wanted - units), over[place])
                self.assertEqual(max(0, units - wanted), spare[place])
            row = row_of(counts)
            served = most_served(table, stock, row)
            self.assertEqual(len(row) - served, refused_count(forest, stock, counts))
            dry = tuple(place for place in range(len(over)) if all(over[higher] for higher in way_up(forest, place)))
            self.assertEqual(dry, dry_places(forest, stock, counts))
            types = dry_types(forest, stock, counts)
            self.assertEqual(tuple(request for request, home in enumerate(forest.homes) if home in dry + (-1,)), types)
            wanted = sum(counts[request] for request in types)
            self.assertEqual(refused_count(forest, stock, counts),
                             wanted - sum(stock[kind] for kind in kinds_of_types(table, types)))
            for request in range(len(table.types)):
                room = room_for(forest, stock, counts, request)
                places = way_up(forest, forest.homes[request])
                self.assertEqual(sum(spare[place] for place in places), room)
                self.assertEqual(sorted(accepted(table, request)),
                                 sorted(kind for place in places for kind in forest.places[place]))
                for more in range(4):
                    self.assertEqual(min(more, room), most_served(table, stock, row + (request,) * more) - served)


class BoundsTest(unittest.TestCase):
    def test_edges(self):
        self.assertIsNone(worst_refused(FOREST, (400, 400, 400), (0, None, 0)))
        self.assertIs(False, is_enough(FOREST, (400, 400, 400), (0, None, 0)))
        self.assertEqual(0, worst_refused(FOREST, (1, 1, 1), (1, 1, 1)))
        self.assertIs(True, is_enough(FOREST, (1, 1, 1), (1, 1, 1)))
        self.assertEqual(1, worst_refused(FOREST, (1, 1, 1), (1, 2, 1)))
        self.assertIs(False, is_enough(FOREST, (1, 1, 1), (1, 2, 1)))
        self.assertIs(True, is_enough(FOREST, (0, 0, 0), (0, 0, 0)))
        self.assertEqual(1200, worst_refused(FOREST, (0, 0, 0), (400, 400, 400)))

    def test_the_bounds_are_the_worst_row(self):
        rng = random.Random(62)
        for table in FORESTS[::2]:
            forest = court(table)
            stock = tuple(rng.randint(0, 2) for _ in table.kinds)
            bounds = tuple(rng.randint(0, 2) for _ in table.types)
            refused = [len(row) - most_served(table, stock, row) for row in sorted_rows(table, bounds, 8)]
            self.assertEqual(max(refused), worst_refused(forest, stock, bounds))
            self.assertEqual(max(refused) == 0, is_enough(forest, stock, bounds))

    def test_deep_forests(self):
        types = tuple((name, tuple(range(at, 8))) for at, name in enumerate("pqrstuvw"))
        table = Table(tuple("abcdefgh"), types)
        forest = court(table)
        for counts in itertools.product((0, 1, 3), repeat=4):
            counts = counts + (0, 1, 0, 2)
            self.assertEqual(sum(counts) - most_served(table, (1,) * 8, row_of(counts)),
                             refused_count(forest, (1,) * 8, counts))


if __name__ == "__main__":
    unittest.main()
