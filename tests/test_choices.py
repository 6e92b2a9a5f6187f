"""[52] Choices: kinds at hand, best ones and unbeaten ones."""

import random
import unittest

from helpers import cases_within, crossing_cases, large_case, meaning_of, rows_up_to, safe_by_trying, without_unit
from neverregret.choices import best_kinds, kinds_at_hand, unbeaten_kinds
from neverregret.court import is_forest
from neverregret.leastkinds import least_kinds
from neverregret.safe import is_safe
from neverregret.tables import Table

TABLE = Table(("attic", "cellar"), (("any", (0, 1)), ("dark", (1,)), ("light", (0,))))


class ChoicesTest(unittest.TestCase):
    def test_examples(self):
        self.assertEqual((0,), best_kinds(TABLE, (2, 1), (0, 1, 1), 0))
        self.assertEqual((), best_kinds(TABLE, (1, 1), (0, 1, 1), 0))
        self.assertEqual((0, 1), unbeaten_kinds(TABLE, (1, 1), (0, 1, 1), 0))

    def test_kinds_at_hand(self):
        self.assertEqual((0, 1), kinds_at_hand(TABLE, (1, 400), 0))
        self.assertEqual((1,), kinds_at_hand(TABLE, (0, 1), 0))
        self.assertEqual((1,), kinds_at_hand(TABLE, (5, 1), 1))
        self.assertEqual((), kinds_at_hand(TABLE, (5, 0), 1))
        self.assertEqual((), kinds_at_hand(Table(("a",), (("p", ()),)), (5,), 0))

    def test_by_trying(self):
        lacking = found = beaten = 0
        for table, stock, bounds in cases_within(220, 520) + crossing_cases(140, 521):
            pairs = safe_by_trying(table, stock, bounds)
            for request, (_, lot) in enumerate(table.types):
                kinds = tuple(kind for kind in lot if stock[kind])
                self.assertEqual(kinds, kinds_at_hand(table, stock, request))
                best = tuple(one for one in kinds if all((one, other) in pairs for other in kinds))
                self.assertEqual(best, best_kinds(table, stock, bounds, request))
                unbeaten = tuple(one for one in kinds if not any((other, one) in pairs and (one, other) not in pairs
                                                                 for other in kinds))
                self.assertEqual(unbeaten, unbeaten_kinds(table, stock, bounds, request))
                self.assertEqual(bool(kinds), bool(unbeaten))
                if best:
                    self.assertEqual(best, unbeaten)
                found += bool(best)
                lacking += bool(kinds and not best)
                beaten += len(kinds) > len(unbeaten)
                self.check_as_if_known(table, stock, bounds, request, kinds, best)
        self.assertGreater(min(found, lacking, beaten), 25)

    def check_as_if_known(self, table, stock, bounds, request, kinds, best):
        """Check that with best kinds, and no others, as many can be served as if all had been known."""
        most_of = meaning_of(table)
        rows = rows_up_to(bounds, sum(stock) + 1)
        for kind in kinds:
            known = all(1 + most_of(without_unit(stock, kind), row) == most_of(stock, row + (request,)) for row in rows)
            self.assertEqual(known, kind in best)
        if kinds:
            # to refuse is never so good, as the row without requests shows
            self.assertLess(most_of(stock, ()), most_of(stock, (request,)))

    def test_no_kind_at_hand(self):
        for function in (best_kinds, unbeaten_kinds):
            self.assertEqual((), function(TABLE, (0, 0), (None, None, None), 0))
            self.assertEqual((), function(TABLE, (400, 0), (None, None, None), 1))
            self.assertEqual((), function(Table(("a",), (("p", ()),)), (5,), (None,), 0))
            self.assertEqual((0,), function(TABLE, (400, 0), (None, None, None), 0))

    def test_bounds(self):
        for function in (best_kinds, unbeaten_kinds):
            self.assertEqual((0, 1), function(TABLE, (400, 400), (0, 0, 0), 0))
            self.assertEqual((0, 1), function(TABLE, (400, 400), (None, 399, 399), 0))
            self.assertEqual((0,), function(TABLE, (400, 400), (None, 400, 399), 0))
            self.assertEqual((1,), function(TABLE, (400, 400), (None, 399, 400), 0))
        self.assertEqual((), best_kinds(TABLE, (400, 400), (None, 400, 400), 0))
        self.assertEqual((0, 1), unbeaten_kinds(TABLE, (400, 400), (None, None, None), 0))

    def test_forests_have_best_kinds(self):
        many = 0
        for table, stock, bounds in cases_within(300, 522, 4, 4):
            if is_forest(table):
                for request in range(len(table.types)):
                    least = least_kinds(table, stock, request)
                    best = best_kinds(table, stock, bounds, request)
                    self.assertTrue(set(least) <= set(best))
                    many += len(best) > 0
        self.assertGreater(many, 50)

    def test_large(self):
        rng = random.Random(523)
        for _ in range(25):
            table, stock, bounds = large_case(rng)
            for request in range(len(table.types)):
                kinds = kinds_at_hand(table, stock, request)
                best = best_kinds(table, stock, bounds, request)
                for one in kinds:
                    safe = [is_safe(table, stock, bounds, one, other) for other in kinds]
                    self.assertEqual(all(safe), one in best)
                unbeaten = unbeaten_kinds(table, stock, bounds, request)
                for one in kinds:
                    beats = any(is_safe(table, stock, bounds, other, one) and not is_safe(table, stock, bounds, one, other)
                                for other in kinds)
                    self.assertEqual(not beats, one in unbeaten)


if __name__ == "__main__":
    unittest.main()
