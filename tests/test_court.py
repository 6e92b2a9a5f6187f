"""[22], [23], [26], and what [24], [25], [27] say of the court's verdict."""

import itertools
import random
import unittest

from helpers import Bag, SINGLES, Unfriendly, all_servings, all_tables, error_of, odd_values, random_tables
from helpers import regrets_by_trying
from neverregret.court import (Crossing, check_verdict, court, crossing_pairs, crossings_of, do_cross, is_forest,
                               is_verdict, verdict_fault)
from neverregret.crossing import crossing_attack, crossing_bounds, crossing_day, crossing_part, regretted_row
from neverregret.crossing import turned_rows
from neverregret.forests import (Forest, places_below, places_of, table_of_forest, types_below, upward_kinds, way_up)
from neverregret.reader import read_table
from neverregret.tables import (Table, accepted, joined_kinds, joined_types, takers, without_kinds, without_types)

ROADS = read_table("bike: lane road\ncart: road\nskate: lane park road")
BOTH = read_table("both: a b\nleft: a\nright: b")
SOME = all_tables(2, 3) + all_tables(3, 3) + random_tables(80, 30, 5, 6)


class CrossTest(unittest.TestCase):
    def test_examples(self):
        self.assertEqual(((0, 1),), crossing_pairs(BOTH))
        self.assertEqual((0, 1, 2), court(BOTH).types)
        self.assertTrue(do_cross(BOTH, 0, 1) and do_cross(BOTH, 1, 0))
        self.assertFalse(do_cross(BOTH, 0, 0))
        self.assertIsInstance(court(read_table("small: s\nlarge: l\nany: s l")), Crossing)
        self.assertIsInstance(court(read_table("large: l\nany: s l")), Forest)

    def test_edges(self):
        for table in (Table(("a", "b"), ()), Table(("a", "b"), (("t", ()),)), Table(("a",), (("t", (0,)),))):
            self.assertEqual(((), (), True), (crossing_pairs(table), crossings_of(table), is_forest(table)))
        self.assertEqual(Forest((), (), ()), court(Table(("a",), ())))
        self.assertEqual(Forest((), (), (-1,)), court(Table(("a",), (("t", ()),))))

    def test_by_the_words(self):
        for table in SOME:
            pairs = []
            for one, other in itertools.product(range(len(table.kinds)), repeat=2):
                ones, others = set(takers(table, one)), set(takers(table, other))
                crosses = bool(ones & others) and not ones <= others and not others <= ones
                self.assertEqual(crosses, do_cross(table, one, other))
                if crosses and one < other:
                    pairs.append((one, other))
            self.assertEqual(tuple(pairs), crossing_pairs(table))
            self.assertEqual(not pairs, is_forest(table))

    def test_all_crossings(self):
        for table in SOME[::3]:
            expected = []
            for one, other in crossing_pairs(table):
                for t, u, v in itertools.product(range(len(table.types)), repeat=3):
                    lots = [accepted(table, request) for request in (t, u, v)]
                    if (one in lots[0] and other in lots[0] and one in lots[1] and other not in lots[1]
                            and other in lots[2] and one not in lots[2]):
                        expected.append(Crossing((one, other), (t, u, v)))
            self.assertEqual(tuple(expected), crossings_of(table))
            if expected:
                self.assertEqual(expected[0], court(table))

    def test_tables_with_less(self):
        for table in SOME:
            if is_forest(table):
                self.assertTrue(is_forest(joined_kinds(table)[0]) and is_forest(joined_types(table)[0]))
                for request in range(len(table.types)):
                    self.assertTrue(is_forest(without_types(table, (request,))))
                for kind in range(len(table.kinds)):
                    if len(table.kinds) > 1:
                        self.assertTrue(is_forest(without_kinds(table, (kind,))))

    def test_equality(self):
        self.assertTrue(Crossing(kinds=(0, 1), types=(0, 1, 2)) == Crossing((0, 1), (0, 1, 2)))
        for other in (Crossing((1, 0), (0, 1, 2)), Crossing((0, 1), (0, 2, 1)), Bag(kinds=(0, 1), types=(0, 1, 2)),
                      None, (0, 1), Forest((0, 1), (0, 1, 2), ()), BOTH):
            self.assertFalse(Crossing((0, 1), (0, 1, 2)) == other)
            self.assertTrue(Crossing((0, 1), (0, 1, 2)) != other)
        self.assertTrue(Crossing("x", None) == Crossing("x", None))


class ForestTest(unittest.TestCase):
    def test_example(self):
        forest = court(ROADS)
        self.assertEqual((((0,), (1,), (2,)), (2, 0, -1), (0, 2, 1), (1, 0, 2)),
                         (forest.places, forest.above, forest.homes, upward_kinds(forest, 2)))

    def test_by_the_words(self):
        for table in SOME:
            forest = court(table)
            if not is_forest(table):
                continue
            self.assertEqual(places_of(table), forest.places)
            lots = [set(takers(table, place[0])) for place in forest.places]
            for place, lot in enumerate(lots):
                higher = [other for other, others in enumerate(lots) if others > lot]
                least = min(higher, key=lambda other: len(lots[other]), default=-1)
                self.assertEqual(least, forest.above[place])
                self.assertEqual(tuple(sorted(lot)), types_below(forest, place))
                self.assertEqual({other for other in range(len(lots)) if lots[other] <= lot},
                                 set(places_below(forest, place)))
            for request in range(len(table.types)):
                mine = [place for place, lot in enumerate(lots) if request in lot]
                self.assertEqual(min(mine, key=lambda place: len(lots[place]), default=-1), forest.homes[request])
                self.assertEqual(accepted(table, request), tuple(sorted(upward_kinds(forest, request))))
                self.assertEqual(set(mine), set(way_up(forest, forest.homes[request])))

    def test_tables_of_forests(self):
        for table in SOME:
            if is_forest(table):
                names = tuple(name for name, _ in table.types)
                self.assertEqual(table, table_of_forest(table.kinds, names, court(table)))

    def test_the_court_returns_the_forest_told(self):
        rng = random.Random(31)
        told = 0
        for _ in range(1500):
            many, types = rng.randint(1, 4), rng.randint(0, 4)
            kinds = rng.sample(range(4), rng.randint(many, 4))
            lots = [[] for _ in range(many)]
            for at, kind in enumerate(kinds):
                lots[at if at < many else rng.randrange(many)].append(kind)
            places = tuple(sorted(tuple(sorted(lot)) for lot in lots))
            above = tuple(rng.randint(-1, many - 1) for _ in range(many))
            forest = Forest(places, above, tuple(rng.randint(-1, many - 1) for _ in range(types)))
            try:
                table = table_of_forest(("a", "b", "c", "d"), tuple("pqrs"[:types]), forest)
            except ValueError:
                continue
            told += 1
            self.assertEqual(forest, court(table))
        self.assertGreater(told, 50)


class JudgeTest(unittest.TestCase):
    def test_right(self):
        for table in SOME:
            verdict = court(table)
            self.assertIsNone(verdict_fault(table, verdict))
            self.assertIs(True, is_verdict(table, verdict))
            self.assertIsNone(check_verdict(table, verdict))
            for crossing in crossings_of(table)[:3]:
                (k, l), (t, u, v) = crossing.kinds, crossing.types
                self.assertTrue(is_verdict(table, crossing))
                self.assertTrue(is_verdict(table, Crossing((l, k), (t, v, u))))
                self.assertEqual("types", verdict_fault(table, Crossing((k, l), (t, v, u))))

    def test_no_verdict(self):
        for value in odd_values() + (Crossing, Forest, BOTH, (0, 1), Bag(places=(), above=(), homes=())):
            self.assertEqual("kind", verdict_fault(BOTH, value))
            self.assertIs(False, is_verdict(BOTH, value))
            self.assertEqual(("InvalidPaper", "kind"), error_of(check_verdict, BOTH, value))

    def test_wrong_crossings(self):
        for kinds in SINGLES + ((), (0,), (0, 1, 1), (0, 2), (-1, 0), (True, 0), (0, True), [0, 1], (0, Unfriendly())):
            self.assertEqual("kinds", verdict_fault(BOTH, Crossing(kinds, Unfriendly())))
            self.assertEqual(("InvalidPaper", "kinds"), error_of(check_verdict, BOTH, Crossing(kinds, None)))
        for types in SINGLES + ((), (0, 1), (0, 1, 2, 2), (0, 1, 3), (0, True, 2), (False, 1, 2), [0, 1, 2],
                                (0, 2, 1), (1, 0, 2), (0, 1, Unfriendly()), (0, 1, None)):
            self.assertEqual("types", verdict_fault(BOTH, Crossing((0, 1), types)))
        self.assertEqual("types", verdict_fault(BOTH, Crossing((0, 0), (0, 1, 2))))

    def test_wrong_forests(self):
        def fault(places=((0,), (1,), (2,)), above=(2, 0, -1), homes=(0, 2, 1)):
            return verdict_fault(ROADS, Forest(places, above, homes))
        self.assertIsNone(fault())
        for places in odd_values() + ((), ((0,), (1,)), ((1,), (0,), (2,)), ((0, 1), (2,)), ((0,), (True,), (2,)),
                                      ((False,), (1,), (2,)), [(0,), (1,), (2,)], ((0,), [1], (2,)),
                                      ((0,), (1,), (2,), ())):
            self.assertEqual("places", fault(places, Unfriendly(), Unfriendly()))
        for above in odd_values() + ((), (2, 0), (2, 0, -1, -1), (2, 0, 3), (2, 0, -2), (2, False, -1), (1, 0, -1),
                                     [2, 0, -1], (0, 0, -1)):
            self.assertEqual("above", fault(above=above, homes=Unfriendly()))
        for homes in odd_values() + ((), (0, 2), (0, 2, 1, 1), (0, 2, True), (0, 2, 3), (0, 2, -2), (0, 2, -1),
                                     (0, 2, 0), (2, 2, 1), [0, 2, 1]):
            self.assertEqual("homes", fault(homes=homes))
        # ways up that end, but lead to other kinds
        for above in ((-1, 0, -1), (2, 2, -1), (2, 0, 1)[:2] + (-1,)):
            self.assertEqual("homes" if above != (2, 0, -1) else None, fault(above=above))

    def test_never_both(self):
        """A right forest is that of the table, and there is one only without a right crossing."""
        for table in all_tables(2, 3):
            numbers = range(3)
            crossings = [Crossing(kinds, types) for kinds in itertools.product(range(2), repeat=2)
                         for types in itertools.product(numbers, repeat=3)]
            forests = []
            for places in ((), ((0,),), ((1,),), ((0, 1),), ((0,), (1,))):
                for above in itertools.product(range(-1, len(places)), repeat=len(places)):
                    for homes in itertools.product(range(-1, len(places)), repeat=3):
                        forests.append(Forest(places, above, homes))
            right_crossings = [value for value in crossings if is_verdict(table, value)]
            right_forests = [value for value in forests if is_verdict(table, value)]
            self.assertEqual([court(table)] if is_forest(table) else [], right_forests)
            self.assertEqual(bool(right_forests), not right_crossings)
            self.assertEqual(2 * len(crossings_of(table)), len(right_crossings))


class ShownTest(unittest.TestCase):
    def test_regrets_and_parts(self):
        for table in SOME[::5]:
            for crossing in crossings_of(table)[:4]:
                stock, rows = crossing_day(table, crossing)
                self.assertEqual(turned_rows(crossing), tuple(row[::-1] for row in rows))
                for kind in crossing.kinds + (None,):
                    row = regretted_row(crossing, kind)
                    for serving in all_servings(table, stock, row):
                        if serving[0] == kind:
                            self.assertTrue(regrets_by_trying(table, stock, row, serving))
                self.assertEqual(3, sum(crossing_bounds(table, crossing)))
                self.assertEqual(crossing.types[0], crossing_attack(crossing)[0])
                self.assertFalse(is_forest(crossing_part(table, crossing)))

    def test_turned_rows(self):
        """Who serves both requests of the turned rows serves only one of some row of the day, whatever the rule."""
        for crossing in crossings_of(BOTH):
            stock, rows = crossing_day(BOTH, crossing)
            turned = turned_rows(crossing)
            self.assertEqual([2, 2], [max(len(serving) - serving.count(None) for serving in
                                          all_servings(BOTH, stock, row)) for row in turned])
            for kind in crossing.kinds:
                self.assertTrue(any(all(serving[1] is None for serving in all_servings(BOTH, stock, row)
                                        if serving[0] == kind) for row in rows))

    def test_two_kinds_and_three_types_are_enough(self):
        for table in SOME[::4]:
            found = False
            for kinds in itertools.combinations(range(len(table.kinds)), 2):
                for types in itertools.combinations(range(len(table.types)), 3):
                    part = without_kinds(table, [kind for kind in range(len(table.kinds)) if kind not in kinds])
                    part = without_types(part, [number for number in range(len(table.types)) if number not in types])
                    found = found or not is_forest(part)
            self.assertEqual(not is_forest(table), found)


if __name__ == "__main__":
    unittest.main()
