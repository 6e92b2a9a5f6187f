"""[66] Steps, splits, and who follows steps."""

import itertools
import random
import unittest

from helpers import SINGLES, Bag, Unfriendly, all_tables, odd_values, random_tables, subsets
from neverregret.court import Crossing, is_verdict
from neverregret.days import is_day, is_day_serving
from neverregret.nowkinds import best_now
from neverregret.returns import Split, Steps, follows_steps, is_line, kind_by_steps, line_of, served_by_steps
from neverregret.stays import day_lapses, day_regrets
from neverregret.tables import Table, accepted, takers

TABLE = Table(("l", "s"), (("any", (0, 1)), ("large", (0,))))
CROSSED = Table(("l", "s"), (("any", (0, 1)), ("large", (0,)), ("small", (1,))))
LINE = (((1,), (0,)), ((0,),))


def days_of(table, returning, length):
    """Return all days with so many events at most."""
    found, longest = [()], [()]
    for _ in range(length):
        events = [("comes", request) for request in range(len(table.types))]
        events += [("leaves", place) for place in range(length)]
        longest = [day + (event,) for day in longest for event in events if is_day(table, returning, day + (event,))]
        found += longest
    return found


def steps_by_words(table, stock, returning):
    """Return the lots of all types, `None` if they make no steps."""
    found = []
    for request, (_, lot) in enumerate(table.types):
        kinds = [kind for kind in lot if stock[kind]]
        together = sorted({takers(table, kind) for kind in kinds}, key=len)
        for lesser, greater in zip(together, together[1:]):
            if not set(lesser) < set(greater):
                return None
        if request in returning and len(together) > 1:
            return None
        found.append(tuple(tuple(kind for kind in kinds if takers(table, kind) == lot) for lot in together))
    return tuple(found)


def all_splits(table, stock, returning):
    """Return all right splits, by trying all numbers, as pairs."""
    kinds = [kind for kind in range(len(table.kinds)) if stock[kind]]
    return [((k, l), (t, u)) for k, l in itertools.permutations(kinds, 2) for t in returning
            for u in range(len(table.types)) if k in accepted(table, t) and l in accepted(table, t)
            and l in accepted(table, u) and k not in accepted(table, u)]


def cases(many, seed):
    """Return small tables with a stock and returning types each."""
    rng = random.Random(seed)
    found = []
    for table in random_tables(many, seed, 3, 3) + all_tables(2, 2) + all_tables(2, 3) + all_tables(3, 3)[::9]:
        stock = tuple(rng.choice((0, 1, 1, 2)) for _ in table.kinds)
        found.append((table, stock, rng.choice(subsets(range(len(table.types))))))
    return found


class LineTest(unittest.TestCase):
    def test_examples(self):
        self.assertEqual(LINE, line_of(TABLE, (1, 1), (1,)).lots)
        self.assertEqual(((1, 0), (0, 1)), (line_of(TABLE, (1, 1), (0,)).kinds, line_of(TABLE, (1, 1), (0,)).types))

    def test_attributes(self):
        steps, split = Steps(lots=3), Split(kinds=None, types="x")
        self.assertEqual((3, None, "x"), (steps.lots, split.kinds, split.types))

    def test_edges(self):
        self.assertEqual((), line_of(Table(("a",), ()), (1,), ()).lots)
        self.assertEqual(((),), line_of(Table(("a",), (("t", ()),)), (1,), (0,)).lots)
        # only kinds with units in stock count
        self.assertEqual((((1,),), ()), line_of(TABLE, (0, 1), (0, 1)).lots)
        self.assertEqual((((0,),), ((0,),)), line_of(TABLE, (400, 0), (0, 1)).lots)
        self.assertEqual(((), ()), line_of(TABLE, (0, 0), (0, 1)).lots)
        self.assertIsInstance(line_of(CROSSED, (1, 1), ()), Crossing)
        self.assertIsInstance(line_of(CROSSED, (1, 0), ()), Steps)
        alike = Table(("a", "b", "c"), (("p", (0, 1, 2)), ("q", (1,))))
        self.assertEqual((((0, 2), (1,)), ((1,),)), line_of(alike, (1, 1, 1), (1,)).lots)
        self.assertEqual((((0, 2),), ()), line_of(alike, (1, 0, 1), (0, 1)).lots)

    def test_by_words(self):
        seen = {"Steps": 0, "Split": 0, "Crossing": 0}
        for table, stock, returning in cases(300, 660):
            line = line_of(table, stock, returning)
            seen[line.__class__.__name__] += 1
            self.assertTrue(is_line(table, stock, returning, line))
            lots = steps_by_words(table, stock, returning)
            self.assertEqual(lots is not None, isinstance(line, Steps))
            if lots is not None:
                self.assertEqual(lots, line.lots)
            splits = all_splits(table, stock, returning)
            for k, l in itertools.permutations(range(len(table.kinds)), 2):
                for types in itertools.product(range(len(table.types)), repeat=2):
                    self.assertEqual(((k, l), types) in splits,
                                     is_line(table, stock, returning, Split((k, l), types)))
                for types in itertools.product(range(len(table.types)), repeat=3):
                    crossing = Crossing((k, l), types)
                    right = is_verdict(table, crossing) and stock[k] > 0 and stock[l] > 0
                    self.assertEqual(right, is_line(table, stock, returning, crossing))
                    self.assertFalse(right and lots is not None)
            self.assertFalse(splits and lots is not None)
        self.assertGreater(min(seen.values()), 5)

    def test_other_values(self):
        for value in odd_values() + (Steps, LINE, Bag(lots=LINE), Bag(kinds=(1, 0), types=(0, 1))):
            self.assertIs(False, is_line(TABLE, (1, 1), (1,), value))
        for lots in odd_values() + (list(LINE), LINE[:1], LINE + ((),), ([(1,), (0,)], ((0,),)), (((1,), [0]), ((0,),)),
                                    (((1, 0),), ((0,),)), (((0, 1),), ((0,),)), (((0,), (1,)), ((0,),)),
                                    (((True,), (0,)), ((0,),)), (((1,), (False,)), ((0,),)),
                                    (((1,), (), (0,)), ((0,),)), (((1,), (0,)), ()), (((1,), (0, 2)), ((0,),)), (((1,),), ((0,),))):
            self.assertFalse(is_line(TABLE, (1, 1), (1,), Steps(lots)))
        for item in SINGLES:
            self.assertFalse(is_line(TABLE, (1, 1), (1,), Steps((item, ((0,),)))))
            self.assertFalse(is_line(TABLE, (1, 1), (1,), Steps((((1,), item), ((0,),)))))
            self.assertFalse(is_line(TABLE, (1, 1), (1,), Steps((((1,), (item,)), ((0,),)))))
        self.assertTrue(is_line(TABLE, (1, 1), (1,), Steps(LINE)))
        self.assertFalse(is_line(TABLE, (1, 1), (0,), Steps(LINE)))
        self.assertFalse(is_line(TABLE, (1, 0), (1,), Steps(LINE)))

    def test_other_splits_and_crossings(self):
        self.assertTrue(is_line(TABLE, (1, 1), (0,), Split((1, 0), (0, 1))))
        for kinds in odd_values() + ([1, 0], (1,), (1, 0, 0), (0, 1), (True, 0), (1, False), (2, 0), (1, -2)):
            self.assertFalse(is_line(TABLE, (1, 1), (0,), Split(kinds, (0, 1))))
        for types in odd_values() + ([0, 1], (0,), (0, 1, 1), (1, 0), (False, 1), (0, True), (0, 2), (0, -1)):
            self.assertFalse(is_line(TABLE, (1, 1), (0,), Split((1, 0), types)))
        self.assertFalse(is_line(TABLE, (1, 1), (1,), Split((1, 0), (0, 1))))
        self.assertFalse(is_line(TABLE, (0, 1), (0,), Split((1, 0), (0, 1))))
        self.assertFalse(is_line(TABLE, (1, 0), (0,), Split((1, 0), (0, 1))))
        self.assertTrue(is_line(CROSSED, (1, 1), (), Crossing((1, 0), (0, 2, 1))))
        for stock in ((0, 1), (1, 0), (0, 0)):
            self.assertFalse(is_line(CROSSED, stock, (), Crossing((0, 1), (0, 1, 2))))
        for value in odd_values():
            self.assertFalse(is_line(CROSSED, (1, 1), (), Crossing(value, (0, 1, 2))))
            self.assertFalse(is_line(CROSSED, (1, 1), (), Crossing((0, 1), value)))
        self.assertFalse(is_line(CROSSED, (1, 1), (), Crossing(Unfriendly(), Unfriendly())))


class FollowTest(unittest.TestCase):
    def test_kinds(self):
        steps = Steps((((1, 2), (0,)), ((0,),)))
        self.assertEqual([1, 2, 0, None], [kind_by_steps(steps, left, 0)
                                           for left in ((1, 1, 1), (1, 0, 1), (1, 0, 0), (0, 0, 0))])
        self.assertEqual([0, None], [kind_by_steps(steps, left, 1) for left in ((1, 1, 1), (0, 1, 1))])

    def test_served(self):
        day = (("comes", 0), ("comes", 0), ("leaves", 0), ("comes", 1), ("comes", 0), ("leaves", 3))
        self.assertEqual((1, 0, None, None, 1, None), served_by_steps((1, 1), Steps(LINE), day))
        self.assertEqual((), served_by_steps((1, 1), Steps(LINE), ()))
        self.assertTrue(follows_steps((1, 1), Steps(LINE), day, (1, 0, None, None, 1, None)))
        for wrong in ((0, 1, None, 0, None, None), (1, None, None, 0, 1, None), (None, 1, None, 0, None, None),
                      (1, 0, None, None, None, None)):
            self.assertTrue(is_day_serving(TABLE, (1, 1), day, wrong))
            self.assertFalse(follows_steps((1, 1), Steps(LINE), day, wrong))

    def test_all_that_follow(self):
        alike = Steps((((1, 2), (0,)),))
        day = (("comes", 0),) * 2
        servings = [serving for serving in itertools.product((None, 0, 1, 2), repeat=2)
                    if follows_steps((1, 1, 1), alike, day, serving)
                    and is_day_serving(Table(("a", "b", "c"), (("t", (0, 1, 2)),)), (1, 1, 1), day, serving)]
        self.assertEqual([(1, 2), (2, 1)], servings)

    def test_who_follows_has_no_regrets(self):
        many = 0
        for table, stock, returning in cases(60, 661):
            line = line_of(table, stock, returning)
            if not isinstance(line, Steps) or not table.types:
                continue
            many += 1
            for day in days_of(table, returning, 4):
                serving = served_by_steps(stock, line, day)
                self.assertTrue(is_day_serving(table, stock, day, serving))
                self.assertTrue(follows_steps(stock, line, day, serving))
                for other in itertools.product(*[(None,) + accepted(table, number) if word == "comes" else (None,)
                                                 for word, number in day]):
                    if is_day_serving(table, stock, day, other) and follows_steps(stock, line, day, other):
                        self.assertEqual((), day_regrets(table, stock, day, other))
                        self.assertEqual((), day_lapses(table, stock, day, other))
        self.assertGreater(many, 20)

    def test_best_now_is_there(self):
        for table, stock, returning in cases(200, 662):
            found = True
            for left in itertools.product(*[range(units + 1) for units in stock]):
                for request in range(len(table.types)):
                    at_hand = [kind for kind in accepted(table, request) if left[kind]]
                    if at_hand and not best_now(table, returning, left, request):
                        found = False
            self.assertEqual(found, isinstance(line_of(table, stock, returning), Steps))


if __name__ == "__main__":
    unittest.main()
