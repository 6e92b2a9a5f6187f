"""[67] Days that attack every rule, and so the other half of [66]."""

import itertools
import random
import unittest

from helpers import all_tables, random_tables, subsets
from neverregret.court import Crossing, crossings_of
from neverregret.dayattacks import attacked_day, next_event
from neverregret.days import is_day, is_day_serving, left_on_day
from neverregret.games import all_orders
from neverregret.returns import Split, Steps, is_line, line_of
from neverregret.stays import day_regrets
from neverregret.tables import Table, accepted

TABLE = Table(("l", "s"), (("any", (0, 1)), ("large", (0,))))


def right_lines(table, stock, returning):
    """Return all right splits and crossings."""
    kinds = range(len(table.kinds))
    types = range(len(table.types))
    found = [Split(pair, two) for pair in itertools.permutations(kinds, 2)
             for two in itertools.product(types, repeat=2)]
    found += [Crossing(crossing.kinds, crossing.types) for crossing in crossings_of(table)]
    found += [Crossing(crossing.kinds[::-1], (crossing.types[0],) + crossing.types[:0:-1])
              for crossing in crossings_of(table)]
    return [line for line in found if is_line(table, stock, returning, line)]


class AttackTest(unittest.TestCase):
    def test_example(self):
        self.assertEqual(((("comes", 0), ("comes", 0), ("leaves", 0), ("comes", 1)), (1, 0, None, None)),
                         attacked_day(TABLE, (1, 1), line_of(TABLE, (1, 1), (0,)), ((1, 0), (0,))))

    def test_next_event(self):
        line = Split((1, 0), (0, 1))
        self.assertEqual(("comes", 0), next_event(TABLE, (1, 1), line, (), ()))
        self.assertIsNone(next_event(TABLE, (1, 1), line, (("comes", 0),), (None,)))
        day = (("comes", 0), ("comes", 0))
        self.assertEqual(("leaves", 0), next_event(TABLE, (1, 1), line, day, (1, 0)))
        self.assertEqual(("leaves", 1), next_event(TABLE, (1, 1), line, day, (0, 1)))
        self.assertEqual(("comes", 1), next_event(TABLE, (1, 1), line, day + (("leaves", 1),), (0, 1, None)))
        self.assertIsNone(next_event(TABLE, (1, 1), line, day + (("leaves", 1), ("comes", 1)), (0, 1, None, None)))

    def follow(self, table, stock, returning, line, day, serving):
        """Try all that a rule can do from here on, and return how many days came about."""
        event = next_event(table, stock, line, day, serving)
        if event is None:
            self.assertEqual("comes", day[-1][0])
            self.assertIsNone(serving[-1])
            self.assertIn(len(day) - 1, day_regrets(table, stock, day, serving))
            self.assertLessEqual(len(day), sum(stock) + 2)
            return 1
        day = day + (event,)
        self.assertTrue(is_day(table, returning, day))
        choices = [None]
        if event[0] == "comes":
            left = left_on_day(stock, day[:-1], serving)
            choices += [kind for kind in accepted(table, event[1]) if left[kind]]
        return sum([self.follow(table, stock, returning, line, day, serving + (kind,)) for kind in choices])

    def test_every_rule_regrets(self):
        rng = random.Random(670)
        splits = crossings = 0
        for table in random_tables(110, 671, 3, 3) + all_tables(2, 3) + all_tables(3, 3)[::5]:
            stock = tuple(rng.choice((0, 1, 1, 2)) for _ in table.kinds)
            if sum(stock) > 4:
                continue
            returning = rng.choice(subsets(range(len(table.types))))
            lines = right_lines(table, stock, returning)
            self.assertEqual(not lines, isinstance(line_of(table, stock, returning), Steps))
            for line in lines:
                self.assertGreater(self.follow(table, stock, returning, line, (), ()), 1)
                splits += isinstance(line, Split)
                crossings += isinstance(line, Crossing)
                for orders in all_orders(table):
                    self.check_orders(table, stock, returning, line, orders)
        self.assertGreater(min(splits, crossings), 30)

    def check_orders(self, table, stock, returning, line, orders):
        day, serving = attacked_day(table, stock, line, orders)
        self.assertTrue(is_day(table, returning, day) and is_day_serving(table, stock, day, serving))
        self.assertEqual((len(day) - 1,), day_regrets(table, stock, day, serving))
        for at, (word, number) in enumerate(day):
            self.assertEqual((word, number), next_event(table, stock, line, day[:at], serving[:at]))
            if word == "comes":
                left = left_on_day(stock, day[:at], serving[:at])
                self.assertEqual(([kind for kind in orders[number] if left[kind]] + [None])[0], serving[at])
        self.assertIsNone(next_event(table, stock, line, day, serving))

    def test_last_event(self):
        # with units that only the other type accepts, and the refusal at event number units + 2
        table = Table(("a", "b", "c"), (("p", (0, 1)), ("q", (0, 2))))
        line = Split((1, 0), (0, 1))
        for orders in all_orders(table):
            day, serving = attacked_day(table, (2, 1, 2), line, orders)
            self.assertEqual(7, len(day))
            self.assertEqual([None, None], [kind for kind in serving if kind is None])
        day, _ = attacked_day(table, (399, 400, 400), line, ((0, 1), (0, 2)))
        self.assertEqual(1201, len(day))

    def test_kinds_that_nobody_else_accepts(self):
        # such a kind shows nothing: the first type comes again until it gets another one
        table = Table(("a", "b", "c"), (("any", (0, 1, 2)), ("left", (0,)), ("right", (1,))))
        line = line_of(table, (1, 1, 2), ())
        day, serving = attacked_day(table, (1, 1, 2), line, ((2, 0, 1), (0,), (1,)))
        self.assertEqual(((("comes", 0),) * 3 + (("comes", 1),), (2, 2, 0, None)), (day, serving))
        day, serving = attacked_day(table, (400, 400, 400), line, ((2, 1, 0), (0,), (1,)))
        self.assertEqual(("comes", 2), day[-1])
        self.assertEqual(801, len(day))


if __name__ == "__main__":
    unittest.main()
