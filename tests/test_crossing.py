"""[27] What a crossing shows. Any object with the attributes of a crossing will do here."""

import itertools
import unittest

from helpers import Bag, all_servings, all_tables, most, regrets_by_trying
from neverregret.crossing import (crossing_attack, crossing_bounds, crossing_day, crossing_part, regretted_row,
                                  turned_rows)
from neverregret.tables import Table, takers

TABLE = Table(("a", "b", "c", "d"), (("all", (0, 1, 2)), ("left", (0,)), ("mid", (1, 3)), ("none", ()), ("right", (2,))))
CROSSING = Bag(kinds=(0, 2), types=(0, 1, 4))
TURNED = Bag(kinds=(2, 0), types=(0, 4, 1))


def crossings(table):
    """Return all crossings of a table, also those with the greater kind first."""
    found = []
    for k, l in itertools.permutations(range(len(table.kinds)), 2):
        ks, ls = set(takers(table, k)), set(takers(table, l))
        for types in itertools.product(sorted(ks & ls), sorted(ks - ls), sorted(ls - ks)):
            found.append(Bag(kinds=(k, l), types=types))
    return found


class CrossingTest(unittest.TestCase):
    def test_day(self):
        self.assertEqual(((1, 0, 1, 0), ((0, 1), (0, 4))), crossing_day(TABLE, CROSSING))
        self.assertEqual(((1, 0, 1, 0), ((0, 4), (0, 1))), crossing_day(TABLE, TURNED))

    def test_rows(self):
        self.assertEqual([(0, 1), (0, 4), (0,)], [regretted_row(CROSSING, kind) for kind in (0, 2, None)])
        self.assertEqual([(0, 1), (0, 4), (0,)], [regretted_row(TURNED, kind) for kind in (0, 2, None)])
        self.assertEqual(((1, 0), (4, 0)), turned_rows(CROSSING))

    def test_bounds_and_part(self):
        self.assertEqual((1, 1, 0, 0, 1), crossing_bounds(TABLE, CROSSING))
        part = Table(("a", "c"), (("all", (0, 1)), ("left", (0,)), ("right", (1,))))
        self.assertEqual(part, crossing_part(TABLE, CROSSING))
        self.assertEqual(part, crossing_part(TABLE, TURNED))

    def test_attack(self):
        self.assertEqual((0, ((1, ()), (4, ()))), crossing_attack(CROSSING))
        self.assertEqual((0, ((1, ()), (4, ()))), crossing_attack(TURNED))

    def test_every_rule_has_a_regret(self):
        for table in all_tables(2, 3) + all_tables(3, 3)[::37]:
            for crossing in crossings(table):
                stock, rows = crossing_day(table, crossing)
                self.assertTrue(all(most(table, stock, row) == 2 for row in rows + turned_rows(crossing)))
                t = crossing.types[0]
                for kind in crossing.kinds + (None,):
                    row = regretted_row(crossing, kind)
                    self.assertTrue(row in rows or row == (t,))
                    for serving in all_servings(table, stock, row):
                        if serving[0] == kind:
                            self.assertTrue(regrets_by_trying(table, stock, row, serving))

    def test_attack_leads_to_regrets(self):
        for table in all_tables(2, 3):
            for crossing in crossings(table):
                stock, _ = crossing_day(table, crossing)
                request, attacks = crossing_attack(crossing)
                offered = [kind for kind in table.types[request][1] if stock[kind]]
                self.assertEqual(len(offered), len(attacks))
                for kind, (last, none) in zip(sorted(offered), attacks):
                    self.assertEqual((), none)
                    self.assertEqual((1,), regrets_by_trying(table, stock, (request, last), (kind, None)))
                    self.assertEqual([other for other in offered if other != kind],
                                     [other for other in offered if other not in table.types[last][1]])
                part = crossing_part(table, crossing)
                self.assertEqual((2, 3), (len(part.kinds), len(part.types)))
                self.assertTrue(crossings(part))


if __name__ == "__main__":
    unittest.main()
