"""[44] Takings, and [45] gaps."""

import itertools
import random
import unittest

from helpers import SINGLES, Unfriendly, odd_values, random_table, random_tables, subsets
from neverregret.gaps import greatest_lack, is_gap, lack_of, takers_among, worst_gap
from neverregret.plain import is_serving, most_served, row_within
from neverregret.tables import Table, accepted, kinds_of_types
from neverregret.takings import greatest_taking, is_taking, taken_units, taking_row, units_by_kind

TABLE = Table(("attic", "cellar"), (("any", (0, 1)), ("dark", (1,)), ("light", (0,))))
RIGHT = ((1, 1), (0, 0), (2, 0))
CHAIN = Table(tuple("abcdefgh"), tuple(zip("pqrstuvw", ((at,) if at == 7 else (at, at + 1) for at in range(8)))))


def random_cases(many, seed, most_units=3):
    """Return small tables with a stock, bounds and a lot of types each."""
    rng = random.Random(seed)
    cases = []
    for table in random_tables(many, seed, 4, 4):
        stock = tuple(rng.randint(0, most_units) for _ in table.kinds)
        bounds = tuple(rng.choice((None, 0, 1, 2, 3)) for _ in table.types)
        cases.append((table, stock, bounds, tuple(number for number in range(len(table.types)) if rng.random() < 0.7)))
    return cases


def lack_by_trying(table, stock, bounds, types, kinds):
    """Return the lack of kinds by the words; that with a type without bound is below all numbers."""
    total = sum(stock[kind] for kind in kinds)
    for request in types:
        if set(accepted(table, request)) & set(kinds):
            if bounds[request] is None:
                return None
            total -= bounds[request]
    return total


class TakingTest(unittest.TestCase):
    def test_right(self):
        for value in (RIGHT, ((0, 0),) * 3, ((3, 1), (0, 0), (0, 0)), ((1, 0), (0, 1), (1, 0))):
            self.assertTrue(is_taking(TABLE, (3, 1), (4, 1, 2), value))
        self.assertTrue(is_taking(TABLE, (400, 400), (None, None, None), ((0, 400), (0, 0), (400, 0))))
        self.assertTrue(is_taking(Table(("a",), ()), (1,), (), ()))

    def test_wrong(self):
        for value in (((1, 1), (0, 0), (3, 0)), ((1, 1), (0, 1), (0, 0)), ((0, 0), (1, 0), (0, 0)), RIGHT[:2],
                      RIGHT + ((0, 0),), ((1, 1, 0), (0, 0), (2, 0)), ((1,), (0, 0), (2, 0)), list(RIGHT),
                      ([1, 1], (0, 0), (2, 0)), ((5, 0), (0, 0), (0, 0)), ((0, 0), (0, 0), (0, 1))):
            self.assertFalse(is_taking(TABLE, (3, 1), (4, 1, 2), value), value)
        self.assertFalse(is_taking(TABLE, (3, 1), (1, 1, 2), RIGHT))
        self.assertFalse(is_taking(TABLE, (3, 1), (4, 1, 1), RIGHT))
        self.assertFalse(is_taking(TABLE, (2, 1), (4, 1, 2), RIGHT))

    def test_other_values(self):
        for value in odd_values():
            self.assertFalse(is_taking(TABLE, (9, 9), (9, 9, 9), value))
        for item in SINGLES + ((0,), ()):
            self.assertFalse(is_taking(TABLE, (9, 9), (9, 9, 9), ((0, 0), item, (0, 0))))
            self.assertFalse(is_taking(TABLE, (9, 9), (None, 9, 9), ((0, item), (0, 0), (0, 0))))
            self.assertFalse(is_taking(TABLE, (9, 9), (None, 9, 9), ((0, item), Unfriendly(), (0, 0))))

    def test_numbers(self):
        self.assertEqual((3, 1), units_by_kind(TABLE, RIGHT))
        self.assertEqual(4, taken_units(RIGHT))
        self.assertEqual(((0,), 0), (units_by_kind(Table(("a",), ()), ()), taken_units(())))
        self.assertEqual(((0, 0, 2, 2), (0, 1, 0, 0)), taking_row(RIGHT))
        self.assertEqual(((0, 0, 0, 1), (0, 0, 1, 1)), taking_row(((2, 1), (0, 1), (0, 0))))
        self.assertEqual(((), ()), taking_row(((0, 0), (0, 0), (0, 0))))


class GreatestTest(unittest.TestCase):
    def test_edges(self):
        self.assertEqual(((0, 0),) * 3, greatest_taking(TABLE, (3, 3), (9, 9, 9), ()))
        self.assertEqual(((0, 0),) * 3, greatest_taking(TABLE, (3, 3), (0, 0, 0), (0, 1, 2)))
        self.assertEqual(((400, 400), (0, 0), (0, 0)), greatest_taking(TABLE, (400, 400), (None, 9, 9), (0,)))
        self.assertEqual((), greatest_taking(Table(("a",), ()), (3,), (), ()))

    def test_ways_over_many_types(self):
        # each type takes the lesser kind first, and has to go up for the next one
        for many in (1, 50, 400):
            stock = (many,) * 8
            taking = greatest_taking(CHAIN, stock, (many,) * 8, tuple(range(8))[::1])
            self.assertEqual(8 * many, taken_units(taking))
            self.assertTrue(is_taking(CHAIN, stock, (many,) * 8, taking))
        turned = Table(tuple("abcdefgh"), tuple(zip("pqrstuvw", ((max(0, at - 1), at) if at else (0,)
                                                                 for at in range(7, -1, -1)))))
        taking = greatest_taking(turned, (400,) * 8, (400,) * 8, tuple(range(8)))
        self.assertEqual(3200, taken_units(taking))

    def test_as_many_as_any(self):
        for table, stock, bounds, types in random_cases(150, 50):
            taking = greatest_taking(table, stock, bounds, types)
            self.assertTrue(is_taking(table, stock, bounds, taking))
            for request, units in enumerate(taking):
                self.assertTrue(request in types or not any(units))
            limits = [sum(stock) if bound is None else bound for bound in bounds]
            row = tuple(request for request in types for _ in range(limits[request]))
            self.assertEqual(most_served(table, stock, row), taken_units(taking))
            row, serving = taking_row(taking)
            self.assertEqual(tuple(sorted(zip(row, serving))), tuple(zip(row, serving)))
            self.assertTrue(is_serving(table, stock, row, serving) and row_within(table, bounds, row))
            self.assertNotIn(None, serving)
            self.assertEqual(units_by_kind(table, taking), tuple(serving.count(kind) for kind in range(len(stock))))


class GapTest(unittest.TestCase):
    def test_examples(self):
        self.assertEqual((0,), worst_gap(TABLE, (2, 1), (3, 1, 1), (2,)))
        self.assertEqual((), worst_gap(TABLE, (2, 1), (3, 1, 1), (1,)))
        self.assertEqual([1, 0, None], [lack_of(TABLE, (2, 1), (3, 1, 1), (2,), (0,)),
                                        lack_of(TABLE, (2, 1), (3, 1, 1), (2,), ()),
                                        lack_of(TABLE, (2, 1), (None, 1, 1), (0, 2), (0,))])
        self.assertEqual(-2, lack_of(TABLE, (2, 1), (3, 1, 1), (0, 2), (0,)))
        self.assertEqual(((0, 2), (0,), ()), (takers_among(TABLE, (0, 1, 2), (0,)), takers_among(TABLE, (0,), (0, 1)),
                                              takers_among(TABLE, (0, 1, 2), ())))

    def test_edges(self):
        self.assertEqual((0, ()), (greatest_lack(TABLE, (2, 1), (3, 1, 1), ()), worst_gap(TABLE, (2, 1), (3, 1, 1), ())))
        self.assertEqual((3, (0, 1)), (greatest_lack(TABLE, (2, 1), (0, 0, 0), (0, 1, 2)),
                                       worst_gap(TABLE, (2, 1), (0, 0, 0), (0, 1, 2))))
        self.assertEqual((0, ()), (greatest_lack(TABLE, (2, 1), (None,) * 3, (0, 1, 2)),
                                   worst_gap(TABLE, (2, 1), (None,) * 3, (0, 1, 2))))
        # a kind without units never stands in the worst gap
        self.assertEqual((0,), worst_gap(TABLE, (2, 0), (0, 0, 0), (0, 1, 2)))
        self.assertFalse(is_gap(TABLE, (2, 0), (0, 0, 0), (0, 1, 2), (0, 1)))
        self.assertFalse(is_gap(TABLE, (2, 1), (0, 0, 0), (2,), (0, 1)))

    def test_by_trying_all_lots(self):
        for table, stock, bounds, types in random_cases(200, 51):
            kinds = kinds_of_types(table, types)
            lacks = {lot: lack_by_trying(table, stock, bounds, types, lot) for lot in subsets(kinds)}
            for lot, lack in lacks.items():
                self.assertEqual(lack, lack_of(table, stock, bounds, types, lot))
            numbers = {lot: lack for lot, lack in lacks.items() if lack is not None}
            greatest = max(numbers.values())
            self.assertEqual(greatest, greatest_lack(table, stock, bounds, types))
            all_worst = [set(lot) for lot, lack in numbers.items() if lack == greatest]
            self.assertEqual(set.intersection(*all_worst), set(worst_gap(table, stock, bounds, types)))
            self.assertIn(set(worst_gap(table, stock, bounds, types)), all_worst)
            for lot in subsets(range(len(table.kinds))):
                expected = lot != () and lot in numbers and all(
                    part in numbers and numbers[part] < numbers[lot] for part in subsets(lot) if part != lot)
                self.assertEqual(expected, is_gap(table, stock, bounds, types, lot), (lot, lacks))
            taking = greatest_taking(table, stock, bounds, types)
            self.assertEqual(sum(stock[kind] for kind in kinds) - greatest, taken_units(taking))

    def test_other_values(self):
        for value in odd_values() + ((1, 0), (0, 0), (2,), (-1,), [0], (0, True), ()):
            if isinstance(value, tuple) and len(value) == 1 and isinstance(value[0], int) and value[0] is not True:
                continue
            self.assertFalse(is_gap(TABLE, (2, 1), (0, 0, 0), (0, 1, 2), value))
        self.assertFalse(is_gap(TABLE, (2, 1), (0, 0, 0), (0, 1, 2), (True,)))
        self.assertFalse(is_gap(TABLE, (2, 1), (0, 0, 0), (0, 1, 2), (-1,)))
        self.assertTrue(is_gap(TABLE, (2, 1), (0, 0, 0), (0, 1, 2), (1,)))

    def test_large(self):
        rng = random.Random(52)
        for _ in range(30):
            table = random_table(rng, 8, 12)
            stock = tuple(rng.choice((0, 1, 399, 400)) for _ in table.kinds)
            bounds = tuple(rng.choice((None, 0, 1, 200, 400)) for _ in table.types)
            types = tuple(range(len(table.types)))
            gap = worst_gap(table, stock, bounds, types)
            self.assertEqual(greatest_lack(table, stock, bounds, types), lack_of(table, stock, bounds, types, gap))
            self.assertTrue(gap == () or is_gap(table, stock, bounds, types, gap))
            lots = itertools.islice(subsets(kinds_of_types(table, types)), 256)
            lacks = [lack_of(table, stock, bounds, types, lot) for lot in lots]
            self.assertEqual(max(lack for lack in lacks if lack is not None), greatest_lack(table, stock, bounds, types))


if __name__ == "__main__":
    unittest.main()
