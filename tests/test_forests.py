"""[23] to [25]: forests, and the tables that they tell."""

import itertools
import random
import unittest

from helpers import Bag, SINGLES, Unfriendly, all_tables, error_of, random_tables
from neverregret.forests import (Forest, place_of_kind, places_below, places_of, table_of_forest, types_below,
                                 upward_kinds, way_up)
from neverregret.tables import Table, takers

# bike: lane road, cart: road, skate: lane park road
FOREST = Forest(((0,), (1,), (2,)), (2, 0, -1), (0, 2, 1))
KINDS = ("lane", "park", "road")
TYPES = ("bike", "cart", "skate")


class ForestTest(unittest.TestCase):
    def test_equality(self):
        same = Forest(places=((0,), (1,), (2,)), above=(2, 0, -1), homes=(0, 2, 1))
        self.assertTrue(FOREST == same)
        for other in (Forest(((0,), (1,)), (2, 0, -1), (0, 2, 1)), Forest(((0,), (1,), (2,)), (2, -1, -1), (0, 2, 1)),
                      Forest(((0,), (1,), (2,)), (2, 0, -1), (0, 2, 0)), None, 3, ((0,), (1,), (2,)),
                      Bag(places=FOREST.places, above=FOREST.above, homes=FOREST.homes)):
            self.assertFalse(FOREST == other)
            self.assertTrue(FOREST != other)
        self.assertTrue(Forest("x", None, [3]) == Forest("x", None, [3]))
        self.assertIs(None, Forest(1, None, 2).above)

    def test_ways(self):
        self.assertEqual([(0, 2), (1, 0, 2), (2,), ()], [way_up(FOREST, place) for place in (0, 1, 2, -1)])
        self.assertEqual([(0, 2), (2,), (1, 0, 2)], [upward_kinds(FOREST, request) for request in range(3)])
        self.assertEqual([(0, 2), (0, 1, 2), (2,)], [types_below(FOREST, place) for place in (0, 2, 1)])
        self.assertEqual([(0, 1), (1,), (0, 1, 2)], [places_below(FOREST, place) for place in range(3)])
        self.assertEqual([0, 1, 2, -1], [place_of_kind(FOREST, kind) for kind in (0, 1, 2, 3)])

    def test_places_with_several_kinds(self):
        forest = Forest(((0, 4), (2, 3)), (-1, 0), (1, 0, -1))
        self.assertEqual((2, 3, 0, 4), upward_kinds(forest, 0))
        self.assertEqual((), upward_kinds(forest, 2))
        self.assertEqual([0, -1, 1, 1, 0], [place_of_kind(forest, kind) for kind in range(5)])
        table = table_of_forest(("a", "b", "c", "d", "e"), ("t", "u", "v"), forest)
        self.assertEqual((("t", (0, 2, 3, 4)), ("u", (0, 4)), ("v", ())), table.types)

    def test_places_of(self):
        table = Table(("a", "b", "c", "d"), (("t", (0, 3)), ("u", (2,))))
        self.assertEqual(((0, 3), (2,)), places_of(table))
        self.assertEqual((), places_of(Table(("a",), ())))
        self.assertEqual((), places_of(Table(("a", "b"), (("t", ()),))))
        for table in random_tables(100, 12, 5, 4):
            found = places_of(table)
            self.assertEqual(sorted(found, key=min), list(found))
            kinds = [kind for place in found for kind in place]
            self.assertEqual([kind for kind in range(len(table.kinds)) if takers(table, kind)], sorted(kinds))
            for one, other in itertools.product(kinds, repeat=2):
                self.assertEqual(takers(table, one) == takers(table, other),
                                 any(one in place and other in place for place in found))


class TableOfForestTest(unittest.TestCase):
    def test_example(self):
        expected = Table(KINDS, (("bike", (0, 2)), ("cart", (2,)), ("skate", (0, 1, 2))))
        self.assertEqual(expected, table_of_forest(KINDS, TYPES, FOREST))

    def test_without_places(self):
        self.assertEqual(Table(("a",), ()), table_of_forest(("a",), (), Forest((), (), ())))
        self.assertEqual(Table(("a",), (("t", ()),)), table_of_forest(("a",), ("t",), Forest((), (), (-1,))))

    def refused(self, word, places, above, homes):
        self.assertEqual(("Refused", word), error_of(table_of_forest, KINDS, TYPES, Forest(places, above, homes)))

    def test_wrong_places(self):
        for item in SINGLES + ((), (0,), (1, 0), (1, 1), (3,), (True,), (-1,), ("a",), (Unfriendly(),), (2.0,)):
            self.refused("places", ((0,), item), Unfriendly(), Unfriendly())
        for places in SINGLES + ([(0,), (1,), (2,)], ((1,), (0,)), ((0, 1), (1, 2)), ((0, 2), (1,), (2,))):
            self.refused("places", places, Unfriendly(), Unfriendly())

    def test_wrong_above(self):
        for item in SINGLES[:12] + SINGLES[13:] + (3, -2, (0,), True, 0, 2):
            if not (isinstance(item, int) and not isinstance(item, bool) and item == -1):
                self.refused("above", ((0,), (1,), (2,)), (2, 0, item), Unfriendly())
        for above in SINGLES + ((), (2, 0), (2, 0, -1, -1), (1, 2, 0), (-1, 1, -1), (1, 0, -1), [2, 0, -1]):
            self.refused("above", ((0,), (1,), (2,)), above, Unfriendly())

    def test_wrong_homes(self):
        for item in SINGLES[:12] + SINGLES[13:] + (3, -2, (0,), True):
            self.refused("homes", ((0,), (1,), (2,)), (2, 0, -1), (0, 2, item))
        for homes in SINGLES + ((), (0, 2), (0, 2, 1, 1), [0, 2, 1]):
            self.refused("homes", ((0,), (1,), (2,)), (2, 0, -1), homes)

    def test_other_places(self):
        # no type has a home at or below the second place, or two places have equal takers
        self.refused("places", ((0,), (1,), (2,)), (2, 0, -1), (0, 2, 2))
        self.refused("places", ((0,), (1,), (2,)), (2, 0, -1), (1, 1, 1))
        self.refused("places", ((0,), (1,)), (-1, 0), (-1, -1, -1))

    def test_all_forests_of_two_kinds(self):
        """Each table without crossing kinds is that of just one forest, the others of none."""
        lots = ((), ((0,),), ((1,),), ((0, 1),), ((0,), (1,)))
        for types in range(4):
            found = []
            for places in lots:
                numbers = range(-1, len(places))
                for above in itertools.product(numbers, repeat=len(places)):
                    for homes in itertools.product(numbers, repeat=types):
                        try:
                            found.append(table_of_forest(("a", "b"), tuple("pqr"[:types]), Forest(places, above, homes)))
                        except ValueError:
                            pass
            laminar = []
            for table in all_tables(2, types):
                ones, others = set(takers(table, 0)), set(takers(table, 1))
                if ones <= others or others <= ones or not ones & others:
                    laminar.append(table)
            self.assertEqual(len(laminar), len(found))
            self.assertTrue(all(table in found for table in laminar))


if __name__ == "__main__":
    unittest.main()
