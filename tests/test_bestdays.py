"""[54] Best days."""

import random
import unittest

from helpers import (SINGLES, Unfriendly, cases_within, crossing_cases, large_case, meaning_of, odd_values, rows_up_to,
                     safe_by_trying, served, without_unit)
from neverregret.bestdays import best_day, is_best_day
from neverregret.choices import best_kinds, kinds_at_hand
from neverregret.plain import is_serving, regrets
from neverregret.servings import most_by_ways
from neverregret.stocks import bounds_after
from neverregret.tables import Table

TABLE = Table(("attic", "cellar"), (("any", (0, 1)), ("dark", (1,)), ("light", (0,)), ("none", ())))


def days_by_trying(table, stock, bounds, row):
    """Return all best days of a row, and of them those that end ahead of a request without a best kind."""
    days = {()}
    ended = set()
    present = [((), stock, bounds)]
    for request in row:
        behind = []
        for day, left, limits in present:
            limits = bounds_after(limits, request)
            kinds = [kind for kind in table.types[request][1] if left[kind]]
            pairs = safe_by_trying(table, left, limits)
            best = [one for one in kinds if all((one, other) in pairs for other in kinds)]
            if kinds and not best:
                ended.add(day)
            behind.extend((day + (kind,), without_unit(left, kind), limits) for kind in best)
            if not kinds:
                behind.append((day + (None,), left, limits))
        present = behind
        days.update(day for day, _, _ in present)
    return days, ended


def random_row(rng, bounds, length):
    """Return a row within bounds with at most so many requests."""
    row = ()
    for _ in range(length):
        free = [request for request, bound in enumerate(bounds) if bound is None or row.count(request) < bound]
        if free:
            row += (rng.choice(free),)
    return row


class BestDayTest(unittest.TestCase):
    def test_examples(self):
        # one dark and two light ones can come, so that the second attic unit goes to the first one
        self.assertEqual((0, 1, 0), best_day(TABLE, (2, 1), (1, 1, 1, None), (0, 1, 2)))
        self.assertIs(True, is_best_day(TABLE, (2, 1), (1, 1, 1, None), (0, 1, 2), (0, 1, 0)))
        self.assertIs(False, is_best_day(TABLE, (2, 1), (1, 1, 1, None), (0, 1, 2), (1, None, 0)))

    def test_edges(self):
        self.assertEqual((), best_day(TABLE, (1, 1), (None,) * 4, ()))
        self.assertEqual((None, None), best_day(TABLE, (1, 1), (None,) * 4, (3, 3)))
        # with kinds at hand and no best one it ends, without kinds at hand it goes on
        self.assertEqual((None,), best_day(TABLE, (1, 1), (None,) * 4, (3, 0, 3)))
        self.assertEqual((), best_day(TABLE, (1, 1), (1, 1, 1, 0), (0, 1, 2)))
        self.assertEqual((None, 0, None), best_day(TABLE, (1, 0), (None,) * 4, (1, 2, 0)))
        self.assertEqual((None,) * 3, best_day(TABLE, (0, 0), (None,) * 4, (0, 1, 2)))
        # the bounds behind the request count
        self.assertIn(best_day(TABLE, (1, 1), (1, 0, 0, 0), (0,)), ((0,), (1,)))
        self.assertEqual((0, 1), best_day(TABLE, (1, 1), (1, 1, 0, 0), (0, 1)))
        self.assertEqual((1, 0), best_day(TABLE, (1, 1), (1, 0, 1, 0), (0, 2)))
        self.assertEqual((1, 0), best_day(TABLE, (1, 1), (None, 1, 1, 0), (1, 0)))

    def test_by_trying(self):
        rng = random.Random(541)
        short = 0
        for table, stock, bounds in cases_within(60, 542) + crossing_cases(80, 543):
            row = random_row(rng, bounds, 4)
            days, ended = days_by_trying(table, stock, bounds, row)
            found = best_day(table, stock, bounds, row)
            self.assertIn(found, days)
            self.assertTrue(len(found) == len(row) or found in ended)
            short += len(found) < len(row)
            values = [()]
            for request in row:
                values += [value + (kind,) for value in values if len(value) < len(row)
                           for kind in (None,) + table.types[request][1]]
            for value in set(values):
                self.assertIs(value in days, is_best_day(table, stock, bounds, row, value))
            for day in rng.sample(sorted(days, key=repr), min(3, len(days))):
                self.check_as_if_known(table, stock, bounds, row, day)
        self.assertGreater(short, 10)

    def check_as_if_known(self, table, stock, bounds, row, day):
        """Check that behind a best day as many were and can be served as of all requests."""
        most_of = meaning_of(table)
        left, limits = stock, bounds
        for request, kind in zip(row, day):
            limits = bounds_after(limits, request)
            left = left if kind is None else without_unit(left, kind)
        for later in rows_up_to(limits, sum(left) + 1):
            self.assertEqual(most_of(stock, row[:len(day)] + later), served(day) + most_of(left, later))

    def test_no_best_one(self):
        """If a request has kinds at hand and no best one, each of them is worse than another one in some row."""
        found = 0
        for table, stock, bounds in crossing_cases(150, 544):
            most_of = meaning_of(table)
            for request in range(len(table.types)):
                if bounds[request] == 0 or len(best_day(table, stock, bounds, (request,))) == 1:
                    continue
                found += 1
                kinds = kinds_at_hand(table, stock, request)
                rows = rows_up_to(bounds_after(bounds, request), sum(stock))
                for kind in kinds:
                    self.assertTrue(any(most_of(without_unit(stock, kind), row) < most_of(without_unit(stock, other), row)
                                        for other in kinds for row in rows))
        self.assertGreater(found, 20)

    def test_other_values(self):
        case = (TABLE, (2, 1), (1, 1, 1, None), (0, 1, 2))
        for value in odd_values() + ([0, 1, 0], (0, 1, 0, None), (0, 1, 0, 0), (0, True, 0), (False, 1, 0), (0, 1, 0.0),
                                     (0, 1, None), (0, None), (0, 1, -2), (0, 2), (0, 0), (None,), (1,)):
            is_right = isinstance(value, tuple) and len(value) == 1 and type(value[0]) is int and value[0] == 0
            self.assertIs(is_right, is_best_day(*case, value))
        for item in SINGLES:
            self.assertFalse(is_best_day(*case, (0, 1, item)))
        self.assertFalse(is_best_day(*case, (0, 1, Unfriendly())))
        for value in ((), (0,), (0, 1), (0, 1, 0)):
            self.assertTrue(is_best_day(*case, value))
        self.assertFalse(is_best_day(TABLE, (0, 0), (None,) * 4, (0,), (False,)))
        self.assertTrue(is_best_day(TABLE, (0, 0), (None,) * 4, (0,), (None,)))

    def test_large(self):
        rng = random.Random(545)
        for _ in range(6):
            table, stock, bounds = large_case(rng)
            row = random_row(rng, bounds, 400 if table.types else 0)
            day = best_day(table, stock, bounds, row)
            self.assertTrue(is_best_day(table, stock, bounds, row, day))
            self.assertTrue(is_serving(table, stock, row[:len(day)], day))
            self.assertEqual(most_by_ways(table, stock, row[:len(day)]), served(day))
            if len(day) < len(row):
                left, limits = stock, bounds
                for request, kind in zip(row, day):
                    limits = bounds_after(limits, request)
                    left = left if kind is None else without_unit(left, kind)
                request = row[len(day)]
                self.assertTrue(kinds_at_hand(table, left, request))
                self.assertFalse(best_kinds(table, left, bounds_after(limits, request), request))

    def test_best_days_have_no_regrets(self):
        rng = random.Random(546)
        for table, stock, bounds in cases_within(80, 547):
            row = random_row(rng, bounds, 5)
            day = best_day(table, stock, bounds, row)
            self.assertEqual((), regrets(table, stock, row[:len(day)], day))


if __name__ == "__main__":
    unittest.main()
