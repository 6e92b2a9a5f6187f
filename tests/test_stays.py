"""[64] Regrets and lapses on days, and [65] which unit now."""

import itertools
import random
import unittest

from helpers import error_of, most, random_tables, subsets
from neverregret.days import coming_places, is_day, is_day_serving, left_on_day, row_there, there_behind
from neverregret.nowkinds import best_now, is_never_worse_now, worse_day
from neverregret.stays import (are_servable_stays, calm_serving, day_lapses, day_regrets, kept_stays, most_behind,
                               places_with_moves)
from neverregret.tables import Table, accepted, takers

TABLE = Table(("l", "s"), (("any", (0, 1)), ("large", (0,)), ("none", ())))
WIDE = Table(("a", "b", "c"), (("none", ()), ("one", (0,)), ("three", (0, 1, 2)), ("two", (0, 1))))
CROSSED = Table(("l", "s"), (("any", (0, 1)), ("large", (0,)), ("small", (1,))))


def random_day(rng, table, most_comings=5):
    """Return a day on which all may leave."""
    day, here = [], []
    for _ in range(rng.randint(0, 9)):
        if here and rng.random() < 0.4:
            day.append(("leaves", here.pop(rng.randrange(len(here)))))
        elif table.types and len(day) - len(here) < 9 and sum(event[0] == "comes" for event in day) < most_comings:
            here.append(len(day))
            day.append(("comes", rng.randrange(len(table.types))))
    return tuple(day)


def all_day_servings(table, stock, day):
    """Return all servings of a day, by trying."""
    choices = [(None,) + accepted(table, number) if word == "comes" else (None,) for word, number in day]
    return [serving for serving in itertools.product(*choices) if is_day_serving(table, stock, day, serving)]


def served_places(serving):
    """Return the places that a serving serves."""
    return tuple(at for at, kind in enumerate(serving) if kind is not None)


def random_cases(many, seed):
    """Return small tables with a stock and a day each."""
    rng = random.Random(seed)
    return [(table, tuple(rng.randint(0, 2) for _ in table.kinds), random_day(rng, table))
            for table in random_tables(many, seed) + [CROSSED] * (many // 2)]


class StaysTest(unittest.TestCase):
    def test_ordinary(self):
        day = (("comes", 0), ("comes", 0), ("leaves", 0), ("comes", 1))
        self.assertTrue(are_servable_stays(TABLE, (1, 1), day, (0, 1, 3)))
        self.assertFalse(are_servable_stays(TABLE, (1, 0), day, (0, 1)))
        self.assertTrue(are_servable_stays(TABLE, (1, 0), day, (0, 3)))
        self.assertFalse(are_servable_stays(TABLE, (1, 0), day, (1, 3)))
        self.assertEqual((3,), day_regrets(TABLE, (1, 1), day, (1, 0, None, None)))
        self.assertEqual((), day_regrets(TABLE, (1, 1), day, (0, 1, None, 0)))
        self.assertEqual((3,), day_lapses(TABLE, (1, 1), day, (1, 0, None, None)))
        self.assertEqual((0, 1, 3), kept_stays(TABLE, (1, 1), day))
        self.assertEqual((0, 1, None, 0), calm_serving(TABLE, (1, 1), day))
        self.assertEqual((0, 1, 3), places_with_moves(TABLE, (1, 1), day))

    def test_a_lapse_that_is_no_regret(self):
        # while the first one is there, the second one has to have the large unit, and would have to be moved
        day = (("comes", 2), ("comes", 0), ("leaves", 0), ("comes", 1))
        serving = (1, 0, None, None)
        self.assertEqual((), day_regrets(CROSSED, (1, 1), day, serving))
        self.assertEqual((3,), day_lapses(CROSSED, (1, 1), day, serving))
        self.assertEqual((0, 1), kept_stays(CROSSED, (1, 1), day))
        self.assertEqual((0, 1, 3), places_with_moves(CROSSED, (1, 1), day))

    def test_empty_days(self):
        self.assertTrue(are_servable_stays(TABLE, (0, 0), (), ()))
        self.assertEqual(((), (), (), (), ()), (day_regrets(TABLE, (0, 0), (), ()), day_lapses(TABLE, (0, 0), (), ()),
                                                kept_stays(TABLE, (0, 0), ()), calm_serving(TABLE, (0, 0), ()),
                                                places_with_moves(TABLE, (0, 0), ())))
        self.assertEqual(0, most_behind(TABLE, (0, 0), (), ()))

    def test_by_trying_all_servings(self):
        lapses_alone = 0
        for table, stock, day in random_cases(160, 80):
            servings = all_day_servings(table, stock, day)
            can_be = {served_places(serving) for serving in servings}
            for places in subsets(coming_places(day)):
                self.assertEqual(places in can_be, are_servable_stays(table, stock, day, places))
            kept, moved = kept_stays(table, stock, day), places_with_moves(table, stock, day)
            calm, no_lapse = 0, 0
            for serving in servings:
                regrets, lapses = [], []
                for at in coming_places(day):
                    if serving[at] is None:
                        before = served_places(serving[:at])
                        if any(served_places(other[:at + 1]) == before + (at,) for other in servings):
                            regrets.append(at)
                        row = row_there(day[:at], serving[:at]) + (day[at][1],)
                        if most(table, stock, row) == len(row):
                            lapses.append(at)
                self.assertEqual(tuple(regrets), day_regrets(table, stock, day, serving))
                self.assertEqual(tuple(lapses), day_lapses(table, stock, day, serving))
                self.assertTrue(set(regrets) <= set(lapses))
                lapses_alone += regrets != lapses
                if not regrets:
                    calm += 1
                    self.assertEqual(kept, served_places(serving))
                if not lapses:
                    no_lapse += 1
                    self.assertEqual(moved, served_places(serving))
            self.assertGreater(calm, 0)
            self.assertEqual(moved == kept, no_lapse > 0)
            found = calm_serving(table, stock, day)
            self.assertTrue(is_day_serving(table, stock, day, found))
            self.assertEqual((), day_regrets(table, stock, day, found))
        self.assertGreater(lapses_alone, 0)

    def test_sizes(self):
        # 4 * 4 * 4 * 4 * 3 * 3 * 2 is 4,608 and 4 ** 6 is 4,096; 5,000 itself cannot be
        just = tuple(("comes", request) for request in (2, 2, 2, 2, 3, 3, 1, 0, 0))
        more = just + (("comes", 1),)
        stock = (2, 2, 2)
        nothing = (None,) * len(just)
        for function, values in ((day_regrets, (nothing,)), (kept_stays, ()), (calm_serving, ())):
            self.assertIsNone(error_of(function, WIDE, stock, just, *values))
            wide = tuple(value + (None,) for value in values)
            self.assertEqual(("Refused", "size"), error_of(function, WIDE, stock, more, *wide))
        self.assertIsNone(error_of(are_servable_stays, WIDE, stock, more, tuple(range(9))))
        self.assertEqual(("Refused", "size"), error_of(are_servable_stays, WIDE, stock, more, tuple(range(10))))
        self.assertIsNone(error_of(most_behind, WIDE, stock, just, ()))
        self.assertIsNone(error_of(most_behind, WIDE, stock, more, (None,)))
        self.assertEqual(("Refused", "size"), error_of(most_behind, WIDE, stock, more, ()))
        for function in (day_lapses, places_with_moves):
            values = (nothing + (None,),) if function is day_lapses else ()
            self.assertIsNone(error_of(function, WIDE, stock, more, *values))

    def test_products_at_just_5000(self):
        # 5,000 is 2 ** 3 * 5 ** 4
        table = Table(tuple("abcd"), (("four", (0, 1, 2, 3)), ("one", (0,))))
        just = (("comes", 0),) * 4 + (("comes", 1),) * 3
        self.assertEqual((0, 1, 2), kept_stays(table, (1, 1, 1, 0), just))
        self.assertEqual(3, most_behind(table, (1, 1, 1, 0), just, ()))
        self.assertFalse(are_servable_stays(table, (1, 1, 1, 1), just, tuple(range(7))))
        self.assertEqual(("Refused", "size"), error_of(kept_stays, table, (1, 1, 1, 0), just + (("comes", 1),)))
        three = Table(tuple("abc"), (("three", (0, 1, 2)), ("two", (0, 1))))
        # 5,184 is 4 ** 3 * 3 ** 4
        beyond = (("comes", 0),) * 3 + (("comes", 1),) * 4
        self.assertEqual(("Refused", "size"), error_of(kept_stays, three, (1, 1, 1), beyond))

    def test_long_days(self):
        day = tuple(("leaves", at - 1) if at % 2 else ("comes", 0) for at in range(4000))
        serving = tuple(None if at % 2 else at // 2 % 2 for at in range(4000))
        self.assertEqual((), day_lapses(TABLE, (1, 1), day, serving))
        self.assertEqual(tuple(range(0, 4000, 2)), places_with_moves(TABLE, (1, 1), day))
        full = (("comes", 0),) * 3999 + (("comes", 2),)
        self.assertEqual(tuple(range(800)), places_with_moves(TABLE, (400, 400), full))
        self.assertEqual(tuple(range(3999)), day_lapses(TABLE, (400, 400), full, (None,) * 4000))
        idle = (("comes", 2),) * 4000
        self.assertEqual((), kept_stays(TABLE, (400, 400), idle))
        self.assertEqual((None,) * 4000, calm_serving(TABLE, (400, 400), idle))
        self.assertEqual((), day_regrets(TABLE, (400, 400), idle, (None,) * 4000))
        self.assertEqual(0, most_behind(TABLE, (400, 400), idle, ()))
        self.assertTrue(are_servable_stays(TABLE, (400, 400), idle, ()))
        self.assertFalse(are_servable_stays(TABLE, (400, 400), idle, (3999,)))


class NowTest(unittest.TestCase):
    def test_most_behind(self):
        for table, stock, day in random_cases(100, 81):
            servings = all_day_servings(table, stock, day)
            for first in range(len(day) + 1):
                for begun in {serving[:first] for serving in servings}:
                    best = max(len(served_places(serving)) for serving in servings if serving[:first] == begun)
                    self.assertEqual(best, most_behind(table, stock, day, begun))

    def test_told_by_takers(self):
        for table in random_tables(80, 82, 3, 4):
            for request in range(len(table.types)):
                for one, other in itertools.product(range(len(table.kinds)), repeat=2):
                    ones, others = set(takers(table, one)), set(takers(table, other))
                    self.assertEqual(ones == others, is_never_worse_now(table, (request,), request, one, other))
                    self.assertEqual(ones <= others, is_never_worse_now(table, (), request, one, other))

    def test_best_now(self):
        rng = random.Random(83)
        self.assertEqual((1,), best_now(TABLE, (), (1, 1), 0))
        self.assertEqual((), best_now(TABLE, (0,), (1, 1), 0))
        self.assertEqual((0,), best_now(TABLE, (0,), (1, 0), 0))
        self.assertEqual((), best_now(TABLE, (0,), (0, 0), 0))
        self.assertEqual((), best_now(TABLE, (0,), (3, 3), 2))
        for table in random_tables(80, 84, 4, 4):
            left = tuple(rng.randint(0, 1) for _ in table.kinds)
            for request, returning in itertools.product(range(len(table.types)), ((), tuple(range(len(table.types))))):
                offered = [kind for kind in accepted(table, request) if left[kind]]
                self.assertEqual(tuple(one for one in offered if all(
                    is_never_worse_now(table, returning, request, one, other) for other in offered)),
                    best_now(table, returning, left, request))

    def test_refused(self):
        day, serving = (("comes", 1),), (0,)
        for one, other, stock in ((0, 1, (1, 1)), (1, 0, (1, 1)), (0, 0, (1, 1)), (0, 1, (2, 0)), (1, 1, (2, 0))):
            self.assertEqual(("Refused", "unit"), error_of(worse_day, TABLE, stock, (), day, serving, 0, one, other))
        for one, other in ((0, 1), (1, 0), (1, 1)):
            self.assertEqual(("Refused", "unit"), error_of(worse_day, TABLE, (5, 5), (), day, serving, 1, one, other))
            self.assertEqual(("Refused", "unit"), error_of(worse_day, TABLE, (5, 5), (), day, serving, 2, one, other))
        self.assertIsNone(worse_day(TABLE, (2, 1), (), day, serving, 0, 1, 0))
        self.assertIsNone(worse_day(TABLE, (2, 1), (0,), day, serving, 0, 1, 1))

    def test_worse_days(self):
        rng = random.Random(85)
        shown = 0
        for table, stock, day in random_cases(400, 86):
            if not table.types:
                continue
            servings = all_day_servings(table, stock, day)
            serving = rng.choice(servings)
            returning = tuple(number for number in range(len(table.types)) if rng.random() < 0.5)
            left = left_on_day(stock, day, serving)
            for request in range(len(table.types)):
                for one, other in itertools.product(accepted(table, request), repeat=2):
                    if left[one] and left[other]:
                        shown += self.check(table, stock, returning, day, serving, request, one, other)
        self.assertGreater(shown, 60)

    def check(self, table, stock, returning, day, serving, request, one, other):
        """Check the day for two kinds, and return whether it shows a difference small enough to be tried."""
        found = worse_day(table, stock, returning, day, serving, request, one, other)
        self.assertEqual(is_never_worse_now(table, returning, request, one, other), found is None)
        if found is None:
            return False
        first = len(day) + 1
        self.assertEqual(day + (("comes", request),), found[:first])
        self.assertLessEqual(len(found) - first, sum(left_on_day(stock, day, serving)) + 1)
        behind = tuple(event for event in found[first:] if event[0] == "leaves")
        self.assertTrue(all(found[place][1] in returning for _, place in behind))
        self.assertTrue(is_day(table, tuple(range(len(table.types))), found))
        try:
            worse, better = [most_behind(table, stock, found, serving + (kind,)) for kind in (one, other)]
        except ValueError:
            return False
        self.assertLess(worse, better)
        return True

    def test_large_stocks(self):
        found = worse_day(TABLE, (400, 400), (0,), (), (), 0, 1, 0)
        self.assertLessEqual(len(found) - 1, 801)
        self.assertEqual((("leaves", 0), ("comes", 1)), found[-2:])
        self.assertEqual((("comes", 0),) + (("comes", 1),) * 400, worse_day(TABLE, (400, 400), (0,), (), (), 0, 0, 1))

    def test_never_worse_on_any_day(self):
        """Where one kind is told to be never worse, no day of a few events shows it worse."""
        rng = random.Random(87)
        tried = 0
        for table in random_tables(120, 88, 2, 3):
            stock = tuple(rng.randint(1, 2) for _ in table.kinds)
            for request, returning in itertools.product(range(len(table.types)), ((), tuple(range(len(table.types))))):
                lot = accepted(table, request)
                for one, other in itertools.permutations(lot, 2):
                    if is_never_worse_now(table, returning, request, one, other):
                        for _ in range(6):
                            day = self.some_day(rng, table, returning, request)
                            self.assertGreaterEqual(most_behind(table, stock, day, (one,)),
                                                    most_behind(table, stock, day, (other,)))
                            tried += 1
        self.assertGreater(tried, 100)

    def some_day(self, rng, table, returning, request):
        """Return a day that begins with a request, on which only requests of returning types leave."""
        day = [("comes", request)]
        here = [0]
        for _ in range(rng.randint(1, 6)):
            can_leave = [place for place in here if day[place][1] in returning]
            if can_leave and rng.random() < 0.4:
                here.remove(rng.choice(can_leave))
                day.append(("leaves", [place for place in can_leave if place not in here][0]))
            else:
                here.append(len(day))
                day.append(("comes", rng.randrange(len(table.types))))
        return tuple(day)


if __name__ == "__main__":
    unittest.main()
