"""[79] Striking, and of [80] the cost of it."""

import random
import unittest

from helpers import SINGLES, Unfriendly, all_tables, error_of, odd_values, random_tables, subsets
from neverregret.court import crossing_pairs, crossings_of, is_forest
from neverregret.reader import read_table
from neverregret.striking import is_repair, items_for, strike_cost, struck_table
from neverregret.tables import Table

TABLE = read_table("both: a b\nleft: a\nright: b")
WAYS = ("kinds", "types", "accepted")


def struck_by_words(table, way, items):
    """Return the table without items, word by word."""
    types = []
    for request, (name, lot) in enumerate(table.types):
        kept = []
        for kind in lot:
            item = {"kinds": kind, "types": request, "accepted": (request, kind)}[way]
            if item not in items:
                kept.append(kind)
        types.append((name, tuple(kept)))
    return Table(table.kinds, tuple(types))


class StrikingTest(unittest.TestCase):
    def test_examples(self):
        self.assertEqual(((0, 0), (0, 1), (1, 0), (2, 1)), items_for(TABLE, "accepted"))
        self.assertEqual(((0, 1), (0, 1, 2)), (items_for(TABLE, "kinds"), items_for(TABLE, "types")))
        self.assertEqual(read_table("both: b\nleft:\nright: b\n: a"), struck_table(TABLE, "kinds", (0,)))
        self.assertEqual(read_table("both:\nleft: a\nright: b"), struck_table(TABLE, "types", (0,)))
        self.assertEqual(read_table("both: a\nleft: a\nright: b"), struck_table(TABLE, "accepted", ((0, 1),)))
        self.assertEqual(5, strike_cost(TABLE, "accepted", (1, 2, 3, 4), ((0, 0), (2, 1))))

    def test_edges(self):
        # kinds without takers and types without kinds can be struck as well
        table = Table(("a", "b"), (("p", ()), ("q", (0,))))
        self.assertEqual(((0, 1), (0, 1), ((1, 0),)), tuple(items_for(table, way) for way in WAYS))
        none = Table(("a",), ())
        self.assertEqual(((0,), (), ()), tuple(items_for(none, way) for way in WAYS))
        self.assertTrue(all(is_repair(none, way, ()) for way in WAYS))
        self.assertEqual(none, struck_table(none, "kinds", (0,)))
        for way in WAYS:
            self.assertEqual(TABLE, struck_table(TABLE, way, ()))
            self.assertEqual(0, strike_cost(TABLE, way, (9,) * 9, ()))
            self.assertTrue(is_repair(TABLE, way, items_for(TABLE, way)))
            self.assertIs(False, is_repair(TABLE, way, ()))
        self.assertEqual(10 ** 40 + 1, strike_cost(TABLE, "types", (10 ** 40, 0, 1), (0, 1, 2)))

    def test_ways(self):
        for way in odd_values() + ("kind", "Kinds", "", ("kinds",), ["kinds"], "accepted ", b"kinds"):
            self.assertEqual(("Refused", "way"), error_of(items_for, TABLE, way))
            self.assertEqual(("Refused", "way"), error_of(struck_table, TABLE, way, ()))
            self.assertEqual(("Refused", "way"), error_of(strike_cost, TABLE, way, (), ()))
            for value in ((), None, Unfriendly()):
                self.assertEqual(("Refused", "way"), error_of(is_repair, TABLE, way, value))

    def test_by_words(self):
        rng = random.Random(790)
        for table in all_tables(2, 3)[::3] + random_tables(60, 791, 4, 4):
            for way in WAYS:
                items = items_for(table, way)
                self.assertEqual(tuple(sorted(set(items))), items)
                costs = tuple(rng.randint(0, 5) for _ in items)
                for lot in rng.sample(subsets(items), min(20, 2 ** len(items))):
                    struck = struck_by_words(table, way, lot)
                    self.assertEqual(struck, struck_table(table, way, lot))
                    self.assertEqual(not crossing_pairs(struck), is_repair(table, way, lot))
                    self.assertEqual(sum(costs[items.index(item)] for item in lot), strike_cost(table, way, costs, lot))

    def test_who_strikes_besides(self):
        for table in all_tables(2, 3)[::3] + random_tables(60, 792, 4, 4):
            for way in ("kinds", "types"):
                lots = subsets(items_for(table, way))
                repairs = [lot for lot in lots if is_repair(table, way, lot)]
                for lot in repairs:
                    for other in lots:
                        self.assertTrue(not set(lot) <= set(other) or other in repairs)

    def test_acceptances_may_make_others_cross(self):
        table = read_table("both: a b\nleft: a\nmore: a b")
        self.assertTrue(is_repair(table, "accepted", ()))
        self.assertFalse(is_repair(table, "accepted", ((2, 0),)))
        self.assertFalse(is_forest(struck_table(table, "accepted", ((2, 0),))))

    def test_each_repair_strikes_each_crossing(self):
        for table in all_tables(2, 3) + random_tables(30, 793, 3, 4):
            for crossing in crossings_of(table):
                (k, l), (t, u, v) = crossing.kinds, crossing.types
                parts = {"kinds": {k, l}, "types": {t, u, v}, "accepted": {(t, k), (t, l), (u, k), (v, l)}}
                for way in WAYS:
                    for lot in subsets(items_for(table, way)):
                        self.assertTrue(set(lot) & parts[way] or not is_repair(table, way, lot))

    def test_other_values(self):
        for way in ("kinds", "types"):
            for value in odd_values() + ([0], (2, 1), (0, 0), (0, 3), (-1,), (True,), (0, True), ((0, 0),)):
                self.assertIs(False, is_repair(TABLE, way, value))
            for item in SINGLES:
                self.assertFalse(is_repair(TABLE, way, (0, item)))
        right = ((0, 0), (0, 1))
        self.assertIs(True, is_repair(TABLE, "accepted", right))
        for value in odd_values() + (list(right), right[::-1], right + right, right + ((1, 1),), ((0, 0), [0, 1]),
                                     ((0, 0), (0, True)), ((False, 0), (0, 1)), ((0, 0), (0, 1), (3, 0)), (0, 1),
                                     ((0, 0), (0, 1, 0)), ((0, 0), (0, 2)), ((-3, 0), (0, 0), (0, 1))):
            self.assertIs(False, is_repair(TABLE, "accepted", value))
        for item in SINGLES:
            self.assertFalse(is_repair(TABLE, "accepted", ((0, 0), item)))
            self.assertFalse(is_repair(TABLE, "accepted", ((0, 0), (0, item))))
            self.assertFalse(is_repair(TABLE, "accepted", ((item, 0), (0, 1))))
        self.assertTrue(is_repair(TABLE, "kinds", (1,)) and is_repair(TABLE, "types", (2,)))


if __name__ == "__main__":
    unittest.main()
