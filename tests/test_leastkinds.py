"""[30] Least kinds."""

import random
import unittest

from helpers import SINGLES, all_servings, error_of, random_tables, regrets_by_trying
from neverregret.court import is_forest
from neverregret.leastkinds import least_kinds, wrong_row
from neverregret.plain import most_served, regrets, sorted_rows
from neverregret.reader import read_table
from neverregret.stocks import unit_taken
from neverregret.tables import Table, accepted, takers

ROADS = read_table("bike: lane road\ncart: road\nskate: lane park road")
BOTH = read_table("both: a b\nleft: a\nright: b")


class LeastTest(unittest.TestCase):
    def test_example(self):
        self.assertEqual(((1,), None, False), (least_kinds(ROADS, (1, 1, 2), 2), wrong_row(ROADS, (1, 1, 2), 2, 1),
                                               wrong_row(ROADS, (1, 0, 2), 0, 2) is None))

    def test_edges(self):
        self.assertEqual((), least_kinds(ROADS, (0, 0, 0), 2))
        self.assertEqual((), least_kinds(Table(("a",), (("t", ()),)), (3,), 0))
        self.assertEqual((), least_kinds(BOTH, (1, 1), 0))
        self.assertEqual((1,), least_kinds(BOTH, (0, 400), 0))
        alike = Table(("a", "b"), (("t", (0, 1)), ("u", (0, 1))))
        self.assertEqual((0, 1), least_kinds(alike, (1, 1), 0))

    def test_refused(self):
        for kind in SINGLES + (3, 8, (0,), (), 2.0):
            self.assertEqual(("Refused", "kind"), error_of(wrong_row, ROADS, (1, 1, 2), 2, kind))
        self.assertEqual(("Refused", "kind"), error_of(wrong_row, ROADS, (1, 1, 2), 1, 0))
        self.assertEqual(("Refused", "kind"), error_of(wrong_row, ROADS, (1, 0, 2), 2, 1))
        self.assertEqual(("Refused", "kind"), error_of(wrong_row, ROADS, (0, 0, 0), 2, 0))

    def test_large_stocks(self):
        row = wrong_row(ROADS, (400, 400, 400), 0, 2)
        self.assertIn(set(row), ({1}, {0}, {2}))
        self.assertEqual((1,) * 400, row)

    def test_by_the_words(self):
        rng = random.Random(70)
        wrong = 0
        for table in random_tables(250, 71, 3, 4):
            stock = tuple(rng.randint(0, 2) for _ in table.kinds)
            for request in range(len(table.types)):
                offered = [kind for kind in accepted(table, request) if stock[kind]]
                least = tuple(kind for kind in offered if all(set(takers(table, kind)) <= set(takers(table, other))
                                                              for other in offered))
                self.assertEqual(least, least_kinds(table, stock, request))
                if is_forest(table) and offered:
                    self.assertTrue(least)
                for kind in offered:
                    row = wrong_row(table, stock, request, kind)
                    self.assertEqual(kind in least, row is None)
                    if row is not None and len(row) < 5:
                        wrong += 1
                        whole = (request,) + row
                        for serving in all_servings(table, stock, whole):
                            if serving[0] == kind:
                                self.assertTrue(regrets_by_trying(table, stock, whole, serving))
        self.assertGreater(wrong, 50)

    def test_least_kinds_are_never_worse(self):
        """Whatever comes behind, no other offered kind leaves more that can be served."""
        rng = random.Random(72)
        compared = 0
        for table in random_tables(80, 73, 3, 3):
            stock = tuple(rng.randint(0, 2) for _ in table.kinds)
            rows = sorted_rows(table, (None,) * len(table.types), sum(stock))
            for request in range(len(table.types)):
                for one in least_kinds(table, stock, request):
                    for other in accepted(table, request):
                        if stock[other] > 0 and other != one:
                            compared += 1
                            self.assertTrue(all(most_served(table, unit_taken(stock, one), row)
                                                >= most_served(table, unit_taken(stock, other), row) for row in rows))
        self.assertGreater(compared, 20)

    def test_a_rule_with_least_kinds_never_regrets(self):
        """In forests, whoever hands out some least kind each time has no regret, whatever comes."""
        rng = random.Random(74)
        for table in [table for table in random_tables(120, 75, 3, 4) if is_forest(table) and table.types]:
            left = stock = tuple(rng.randint(0, 2) for _ in table.kinds)
            row = tuple(rng.randrange(len(table.types)) for _ in range(6))
            serving = ()
            for request in row:
                least = least_kinds(table, left, request)
                serving += (rng.choice(least) if least else None,)
                left = unit_taken(left, serving[-1]) if least else left
            self.assertEqual((), regrets(table, stock, row, serving))


if __name__ == "__main__":
    unittest.main()
