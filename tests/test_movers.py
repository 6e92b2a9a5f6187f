"""[72] Which types must be movable, and of [71] courses and their regrets."""

import itertools
import random
import unittest

from helpers import all_servings, all_tables, error_of, most, random_tables, subsets
from neverregret.court import crossing_pairs, crossings_of
from neverregret.crossing import crossing_day
from neverregret.games import some_rule
from neverregret.movers import are_enough, fixed_crossing, some_moving_rule, types_to_move
from neverregret.tables import Table, accepted

TABLE = Table(("l", "s"), (("any", (0, 1)), ("large", (0,)), ("small", (1,))))


def goes_on(table, stock, bounds, movable, row, serving):
    """Return whether some rule that makes courses never has a regret behind a serving, by trying all courses."""
    for request in range(len(table.types)):
        if row.count(request) == bounds[request]:
            continue
        longer = row + (request,)
        there = [number for number, kind in zip(row, serving) if kind is not None] + [request]
        if most(table, stock, there) < len(there):
            # such a request can be refused for good, and changes nothing
            continue
        found = False
        for value in all_servings(table, stock, longer):
            same = all((new is None) == (old is None) and (number in movable or new == old)
                       for number, old, new in zip(row, serving, value))
            if same and value[-1] is not None and goes_on(table, stock, bounds, movable, longer, value):
                found = True
                break
        if not found:
            return False
    return True


class MoversTest(unittest.TestCase):
    def test_examples(self):
        self.assertEqual((0,), types_to_move(TABLE))
        self.assertIs(True, are_enough(TABLE, (0,)))
        self.assertIs(False, are_enough(TABLE, (1, 2)))
        self.assertIsNone(fixed_crossing(TABLE, (0, 1)))
        self.assertEqual(((0, 1), (0, 1, 2)), (fixed_crossing(TABLE, ()).kinds, fixed_crossing(TABLE, ()).types))

    def test_by_words(self):
        for table in all_tables(2, 3) + all_tables(3, 3)[::7] + random_tables(60, 720, 4, 5):
            expected = tuple(request for request, (_, lot) in enumerate(table.types)
                             if any(one in lot and other in lot for one, other in crossing_pairs(table)))
            self.assertEqual(expected, types_to_move(table))
            for movable in subsets(range(len(table.types))):
                self.assertEqual(set(expected) <= set(movable), are_enough(table, movable))
                fixed = [crossing for crossing in crossings_of(table) if crossing.types[0] not in movable]
                self.assertEqual(fixed[0] if fixed else None, fixed_crossing(table, movable))

    def test_edges(self):
        none = Table(("a",), ())
        self.assertEqual(((), True, None, True), (types_to_move(none), are_enough(none, ()), fixed_crossing(none, ()),
                                                  some_moving_rule(none, (400,), (), ())))
        self.assertTrue(some_moving_rule(TABLE, (0, 0), (None,) * 3, ()))
        self.assertTrue(some_moving_rule(TABLE, (1, 1), (0, 1, 1), ()))
        self.assertFalse(some_moving_rule(TABLE, (1, 1), (None,) * 3, ()))
        self.assertFalse(some_moving_rule(TABLE, (1, 1), (1, 1, 1), (1, 2)))
        self.assertTrue(some_moving_rule(TABLE, (1, 1), (1, 1, 0), (1, 2)))
        self.assertTrue(some_moving_rule(TABLE, (1, 1), (None,) * 3, (0,)))
        self.assertTrue(some_moving_rule(Table(("a", "b"), (("p", ()), ("q", (0,)))), (2, 2), (None, None), (0,)))

    def test_size(self):
        eleven = Table(("a", "b"), tuple((name, (0, 1)) for name in "klmnopqrstu"))
        self.assertIs(True, some_moving_rule(eleven, (1, 2), (None,) * 11, (0, 5)))
        twelve = Table(("a", "b"), tuple((name, (0, 1)) for name in "klmnopqrstuv"))
        self.assertTrue(some_moving_rule(twelve, (1, 1), (None,) * 12, ()))
        alone = Table(("a", "b"), (("t", (0, 1)),))
        self.assertTrue(some_moving_rule(alone, (5, 5), (None,), ()))
        for table, stock in ((twelve, (1, 2)), (twelve, (400, 400)), (alone, (5, 6)), (alone, (11, 0)),
                             (TABLE, (6, 0))):
            bounds = (0,) * len(table.types)
            for movable in ((), tuple(range(len(table.types)))):
                self.assertEqual(("Refused", "size"), error_of(some_moving_rule, table, stock, bounds, movable))

    def test_by_trying_courses(self):
        rng = random.Random(721)
        seen = [0, 0]
        tables = [table for table in all_tables(2, 3) + all_tables(3, 3)[::11] if crossings_of(table)]
        tables += random_tables(90, 722, 3, 3)
        for table in tables:
            stock = tuple(rng.choice((0, 1, 1, 2)) for _ in table.kinds)
            if sum(stock) > 3:
                continue
            bounds = tuple(rng.choice((None, 1, 1, 2)) for _ in table.types)
            for movable in subsets(range(len(table.types))):
                expected = goes_on(table, stock, bounds, movable, (), ())
                self.assertIs(expected, some_moving_rule(table, stock, bounds, movable))
                seen[expected] += 1
        self.assertGreater(min(seen), 15)

    def test_nothing_movable_is_the_game(self):
        rng = random.Random(723)
        for table in random_tables(150, 724, 3, 3) + all_tables(2, 3)[::2]:
            stock = tuple(rng.choice((0, 1, 1, 2)) for _ in table.kinds)
            bounds = tuple(rng.choice((None, 0, 1, 2)) for _ in table.types)
            if sum(stock) <= 4:
                self.assertEqual(some_rule(table, stock, bounds), some_moving_rule(table, stock, bounds, ()))
                self.assertTrue(some_moving_rule(table, stock, bounds, tuple(range(len(table.types)))))

    def test_enough_for_all_stocks_and_bounds(self):
        for table in all_tables(2, 3)[::2] + all_tables(3, 3)[::41] + [TABLE]:
            stocks = [stock for stock in itertools.product(range(3), repeat=len(table.kinds)) if sum(stock) <= 4]
            for movable in subsets(range(len(table.types))):
                if are_enough(table, movable):
                    for stock in stocks[::2]:
                        self.assertTrue(some_moving_rule(table, stock, (None,) * 3, movable))
                else:
                    stock, rows = crossing_day(table, fixed_crossing(table, movable))
                    self.assertFalse(some_moving_rule(table, stock, (None,) * 3, movable))
                    self.assertFalse(some_moving_rule(table, stock, (1, 1, 1), movable))
                    # the first request stays with its kind, and one of the two rows regrets
                    for kind in accepted(table, rows[0][0]):
                        if stock[kind]:
                            served = [any(value[0] == kind and None not in value
                                          for value in all_servings(table, stock, row)) for row in rows]
                            self.assertEqual([False, True], sorted(served))


if __name__ == "__main__":
    unittest.main()
