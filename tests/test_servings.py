"""[33] Ways by turns and [34] greatest servings."""

import itertools
import random
import unittest

from helpers import SINGLES, Unfriendly, all_servings, error_of, most, odd_values, random_tables, served
from neverregret.plain import is_serving, kept_places, left_stock, regrets
from neverregret.servings import (greatest_serving, grown_serving, is_greatest_serving, is_way, most_by_ways,
                                  served_places, turned_serving, way_from)
from neverregret.tables import Table, accepted

TABLE = Table(("l", "s"), (("any", (0, 1)), ("large", (0,)), ("small", (1,))))
CASE = (TABLE, (1, 1), (0, 1), (0, None))
CHAIN = Table(tuple("abcdefgh"), tuple(zip("pqrstuvw", ((at,) if at == 7 else (at, at + 1) for at in range(8)))))


def is_way_by_words(table, stock, row, serving, pairs):
    """Return whether pairs of numbers are a way, word by word."""
    if not pairs or serving[pairs[0][0]] is not None or len({place for place, _ in pairs}) < len(pairs):
        return False
    if any(kind not in accepted(table, row[place]) for place, kind in pairs):
        return False
    if any(serving[place] != kind for (_, kind), (place, _) in zip(pairs, pairs[1:])):
        return False
    return stock[pairs[-1][1]] > serving.count(pairs[-1][1])


def all_ways(table, stock, row, serving):
    """Return all ways with any places, by trying."""
    pairs = [(place, kind) for place in range(len(row)) for kind in range(len(table.kinds))]
    return [way for size in range(1, len(row) + 1) for way in itertools.permutations(pairs, size)
            if is_way_by_words(table, stock, row, serving, way)]


def can_be_served(table, stock, row, places):
    """Return whether all these places can be served together."""
    part = [row[place] for place in sorted(places)]
    return most(table, stock, part) == len(part)


def cases(many, seed, length=5, kinds=3):
    """Return small tables with a stock, a row and a serving each."""
    rng = random.Random(seed)
    found = []
    for table in random_tables(many, seed, kinds, 3):
        if table.types:
            stock = tuple(rng.choice((0, 1, 1, 2)) for _ in table.kinds)
            row = tuple(rng.randrange(len(table.types)) for _ in range(rng.randint(0, length)))
            found.append((table, stock, row, rng.choice(all_servings(table, stock, row))))
    return found


class WayTest(unittest.TestCase):
    def test_examples(self):
        self.assertEqual(((1, 0), (0, 1)), way_from(*CASE, 1))
        self.assertEqual((1, 0), turned_serving((0, None), ((1, 0), (0, 1))))
        self.assertEqual((0, 2), served_places((1, None, 0)))
        self.assertEqual((), served_places((None,)) + served_places(()))

    def test_fewest_pairs_by_trying(self):
        found = lacking = 0
        for table, stock, row, serving in cases(80, 330, 4, 2):
            ways = all_ways(table, stock, row, serving)
            for place in range(len(row)):
                if serving[place] is not None:
                    self.assertEqual(("Refused", "place"), error_of(way_from, table, stock, row, serving, place))
                    continue
                way = way_from(table, stock, row, serving, place)
                lengths = [len(other) for other in ways if other[0][0] == place]
                self.assertEqual(min(lengths, default=None), None if way is None else len(way))
                together = served_places(serving) + (place,)
                self.assertEqual(can_be_served(table, stock, row, together), way is not None)
                if way is None:
                    lacking += 1
                else:
                    found += 1
                    self.assertIn(way, ways)
                    self.assertTrue(is_way(table, stock, row, serving, way))
                    turned = turned_serving(serving, way)
                    self.assertTrue(is_serving(table, stock, row, turned))
                    self.assertEqual(tuple(sorted(together)), served_places(turned))
            for way in ways:
                self.assertTrue(is_way(table, stock, row, serving, way))
                turned = turned_serving(serving, way)
                self.assertTrue(is_serving(table, stock, row, turned) and served(turned) == served(serving) + 1)
        self.assertGreater(min(found, lacking), 20)

    def test_judge_by_words(self):
        rng = random.Random(331)
        for table, stock, row, serving in cases(120, 332, 3):
            pairs = [(place, kind) for place in range(-1, len(row) + 1) for kind in range(-1, len(table.kinds) + 1)]
            for _ in range(60):
                way = tuple(rng.choice(pairs) for _ in range(rng.randint(0, 3)))
                right = all(0 <= place < len(row) and 0 <= kind < len(table.kinds) for place, kind in way)
                right = right and is_way_by_words(table, stock, row, serving, way)
                self.assertEqual(right, is_way(table, stock, row, serving, way))

    def test_chain(self):
        row, serving = tuple(range(8)), (1, 2, 3, 4, 5, 6, 7, None)
        way = way_from(CHAIN, (1,) * 8, row, serving, 7)
        self.assertEqual(((7, 7), (6, 6), (5, 5), (4, 4), (3, 3), (2, 2), (1, 1), (0, 0)), way)
        self.assertEqual(row, turned_serving(serving, way))
        self.assertIsNone(way_from(CHAIN, (0,) + (1,) * 7, row, serving, 7))

    def test_edges(self):
        none = Table(("a",), (("t", ()),))
        self.assertIsNone(way_from(none, (4,), (0,), (None,), 0))
        self.assertFalse(is_way(none, (4,), (0,), (None,), ((0, 0),)))
        self.assertEqual(((0, 0),), way_from(TABLE, (1, 1), (0,), (None,), 0))
        for place in odd_values() + (0, 2, -1, (1,)):
            self.assertEqual(("Refused", "place"), error_of(way_from, *CASE, place))
        self.assertEqual(("Refused", "place"), error_of(way_from, TABLE, (0, 0), (0, 0), (None, None), True))

    def test_other_values(self):
        right = ((1, 0), (0, 1))
        self.assertIs(True, is_way(*CASE, right))
        for value in odd_values() + ((), list(right), right[::-1], right[:1], right[1:], right + right,
                                     ((1, 0, 0), (0, 1)), ([1, 0], (0, 1)), ((True, 0), (0, 1)), ((1, False), (0, 1)), ((1, 0), (0, True)),
                                     ((1, 0), (0, 0)), ((1, 1), (0, 1)), ((1, 0), (1, 0), (0, 1)), ((2, 0), (0, 1))):
            self.assertIs(False, is_way(*CASE, value))
        for item in SINGLES:
            self.assertFalse(is_way(*CASE, (item, (0, 1))))
            self.assertFalse(is_way(*CASE, ((1, 0), item)))
            self.assertFalse(is_way(*CASE, ((1, 0), (0, item))))
            self.assertFalse(is_way(*CASE, ((1, 0), (item, 1))))
        self.assertFalse(is_way(TABLE, (1, 0), (0, 1), (0, None), right))


class GreatestTest(unittest.TestCase):
    def test_by_trying(self):
        for table, stock, row, serving in cases(220, 340):
            grown = grown_serving(table, stock, row, serving)
            self.assertTrue(is_serving(table, stock, row, grown))
            expected = set(served_places(serving))
            for place in range(len(row)):
                if place not in expected and can_be_served(table, stock, row, expected | {place}):
                    expected.add(place)
            self.assertEqual(tuple(sorted(expected)), served_places(grown))
            greatest = greatest_serving(table, stock, row)
            number = most(table, stock, row)
            self.assertTrue(is_serving(table, stock, row, greatest))
            self.assertEqual([number] * 3, [served(grown), served(greatest), most_by_ways(table, stock, row)])
            self.assertEqual(kept_places(table, stock, row), served_places(greatest))
            self.assertEqual((), regrets(table, stock, row, greatest))
            for other in all_servings(table, stock, row):
                self.assertEqual(served(other) == number, is_greatest_serving(table, stock, row, other))

    def test_large(self):
        row = (0,) * 200 + (1,) * 200
        self.assertEqual((1,) * 200 + (0,) * 200, greatest_serving(TABLE, (200, 200), row))
        self.assertEqual(400, most_by_ways(TABLE, (400, 400), (0, 1, 2, 0) * 100))
        self.assertEqual(200, most_by_ways(TABLE, (200, 400), (1,) * 400))
        self.assertEqual(0, most_by_ways(TABLE, (0, 0), (0,) * 400))
        row = tuple(range(8)) * 50
        self.assertEqual((50,) * 8, tuple(greatest_serving(CHAIN, (50,) * 8, row).count(kind) for kind in range(8)))
        serving = greatest_serving(CHAIN, (60,) * 7 + (10,), row)
        self.assertEqual(360, served(serving))
        self.assertTrue(is_greatest_serving(CHAIN, (60,) * 7 + (10,), row, serving))

    def test_edges(self):
        none = Table(("a",), ())
        self.assertEqual(((), (), 0), (greatest_serving(none, (3,), ()), grown_serving(none, (3,), (), ()),
                                       most_by_ways(none, (3,), ())))
        self.assertTrue(is_greatest_serving(none, (3,), (), ()))
        self.assertEqual((0, None), greatest_serving(TABLE, (1, 0), (0, 1)))
        self.assertEqual((None, 0), grown_serving(TABLE, (1, 0), (0, 1), (None, 0)))
        self.assertEqual((0, 0, 1), left_stock((1, 1, 1), (0, 1)))

    def test_other_values(self):
        for value in odd_values() + ([1, 0], (1,), (1, 0, 0), (0, 0), (True, 0), (1, False), (0, 1), (1, None), (-1, 0),
                                     (Unfriendly(), 0)):
            self.assertIs(False, is_greatest_serving(TABLE, (1, 1), (0, 1), value))
        self.assertIs(True, is_greatest_serving(TABLE, (1, 1), (0, 1), (1, 0)))


if __name__ == "__main__":
    unittest.main()
