"""[1], [2], [6] to [9]: tables, takers, checks, tables with less and joined tables."""

import itertools
import random
import unittest

from helpers import Bag, SINGLES, Unfriendly, error_of, most, odd_values, random_table, random_tables
from neverregret.errors import InvalidBounds, InvalidRow, InvalidStock, InvalidTable, Refused
from neverregret.tables import (Table, accepted, all_takers, check_bounds, check_row, check_stock, joined_kinds,
                                joined_types, kind_names, kind_number, kinds_of_types, takers, type_names, type_number,
                                types_of_kinds, types_without, without_kinds, without_types)

TABLE = Table(("barn", "cabin", "yurt"), (("dry", (0, 1)), ("tall", (0, 1)), ("warm", (2,))))
TWELVE = tuple((name, ()) for name in "abcdefghijkl")


class TableTest(unittest.TestCase):
    def test_attributes(self):
        table = Table(kinds=("a", "b"), types=(("t", (0, 1)), ("u", ())))
        self.assertEqual(("a", "b"), table.kinds)
        self.assertEqual((("t", (0, 1)), ("u", ())), table.types)

    def test_edges_that_are_right(self):
        for kinds in (("a",), ("abcdefgh",), tuple("abcdefgh")):
            for types in ((), (("z", ()),), TWELVE, (("abcdefgh", (0,)),)):
                self.assertEqual(kinds, Table(kinds, types).kinds)
        self.assertEqual(tuple(range(8)), Table(tuple("abcdefgh"), (("t", tuple(range(8))),)).types[0][1])

    def test_wrong_kinds(self):
        wrong = odd_values() + ((), ("b", "a"), ("a", "a"), ("a", "abcdefghi"), ("a", ""), ("a", "B"), ("a", "b1"),
                                ("a", "b "), ("a", "b\n"), ("a", 3), ["a"], "ab", tuple("abcdefghi"), ("\u00e4",))
        for kinds in wrong:
            if isinstance(kinds, tuple) and all(isinstance(name, str) for name in kinds) and (
                    kinds in (("a",), ("abc",), ("a", "b", "c", "d"))):
                continue
            with self.assertRaises(InvalidTable) as caught:
                Table(kinds, Unfriendly())
            self.assertEqual(-2, caught.exception.at)

    def test_wrong_types(self):
        for types in SINGLES + (TWELVE + (("m", ()),), [("t", (0,))]):
            with self.assertRaises(InvalidTable) as caught:
                Table(("a",), types)
            self.assertEqual(-1, caught.exception.at)

    def test_wrong_item(self):
        wrong = SINGLES + ((), ("t",), ("t", (0,), 0), ("t", [0]), ("t", 0), ("T", (0,)), ("t", (2,)), ("t", (1, 0)),
                           ("t", (0, 0)), ("t", (True,)), ("t", (False, 1)), ("t", (None,)), ("t", (-1,)),
                           ("t", (0.0,)), ("t", ("a",)), (3, (0,)), ["t", (0,)], ("abcdefghi", ()), ("", ()),
                           (Unfriendly(), ()), ("t", Unfriendly()), ("t", (Unfriendly(),)),
                           # these are wrong only behind a name that is not less
                           ("d", (0,)), ("c", (0,)), ("a", ()), ("cz", (1,)), ("d", ()))
        for item in wrong:
            for behind in ((), (("z", ()),), (7,)):
                with self.assertRaises(InvalidTable) as caught:
                    Table(("a", "b"), (("c", ()), ("d", (1,)), item) + behind)
                self.assertEqual(2, caught.exception.at)
        for names in ("ba", "aa", "zy"):
            types = tuple((name, ()) for name in names)
            self.assertEqual(("InvalidTable", 1), error_of(Table, ("a", "b"), types))
        for item in wrong[:-5]:
            self.assertEqual(("InvalidTable", 0), error_of(Table, ("a", "b"), (item, 5)))

    def test_equality(self):
        self.assertTrue(Table(("a", "b"), (("t", (0,)),)) == Table(("a", "b"), (("t", (0,)),)))
        for other in (Table(("a", "c"), (("t", (0,)),)), Table(("a", "b"), (("u", (0,)),)), None, ("a", "b"), 3,
                      Table(("a", "b"), (("t", (1,)),)), Table(("a", "b"), ()), Bag(kinds=("a", "b"))):
            self.assertFalse(Table(("a", "b"), (("t", (0,)),)) == other)
            self.assertTrue(Table(("a", "b"), (("t", (0,)),)) != other)

    def test_names(self):
        self.assertEqual(("barn", "cabin", "yurt"), kind_names(TABLE))
        self.assertEqual(("dry", "tall", "warm"), type_names(TABLE))
        self.assertEqual(((), ("a",)), (type_names(Table(("a",), ())), kind_names(Table(("a",), ()))))
        self.assertEqual([0, 1, 2], [kind_number(TABLE, name) for name in ("barn", "cabin", "yurt")])
        self.assertEqual([0, 1, 2], [type_number(TABLE, name) for name in ("dry", "tall", "warm")])

    def test_wrong_names(self):
        for name in odd_values() + ("loft", "bar", 0, "dry ", "Barn"):
            self.assertEqual(("Refused", "kind"), error_of(kind_number, TABLE, name))
            self.assertEqual(("Refused", "type"), error_of(type_number, TABLE, name))
        self.assertRaises(Refused, kind_number, TABLE, "dry")
        self.assertRaises(Refused, type_number, TABLE, "barn")


class TakersTest(unittest.TestCase):
    def test_example(self):
        self.assertEqual((0, 1), takers(TABLE, 1))
        self.assertEqual((0, 1, 2), kinds_of_types(TABLE, (0, 2)))

    def test_by_the_words(self):
        rng = random.Random(1)
        for table in random_tables(150, 2, 8, 12):
            kinds = range(len(table.kinds))
            types = range(len(table.types))
            self.assertEqual([lot for _, lot in table.types], [accepted(table, request) for request in types])
            for kind in kinds:
                lot = tuple(request for request in types if kind in table.types[request][1])
                self.assertEqual(lot, takers(table, kind))
                self.assertEqual(lot, all_takers(table)[kind])
                self.assertEqual(tuple(sorted(set(types) - set(lot))), types_without(table, kind))
            some_types = tuple(request for request in types if rng.random() < 0.4)
            some_kinds = tuple(kind for kind in kinds if rng.random() < 0.4)
            self.assertEqual(tuple(kind for kind in kinds if set(takers(table, kind)) & set(some_types)),
                             kinds_of_types(table, some_types))
            self.assertEqual(tuple(request for request in types if set(accepted(table, request)) & set(some_kinds)),
                             types_of_kinds(table, some_kinds))

    def test_empty(self):
        table = Table(("a", "b"), (("t", ()),))
        self.assertEqual(((), ()), all_takers(table))
        self.assertEqual((0,), types_without(table, 1))
        self.assertEqual(((), ()), (kinds_of_types(table, (0,)), types_of_kinds(table, (0, 1))))
        self.assertEqual(((), ()), (kinds_of_types(table, ()), types_of_kinds(table, ())))
        self.assertEqual(((), ()), all_takers(Table(("a", "b"), ())))


class ChecksTest(unittest.TestCase):
    def test_right(self):
        for stock in ((0, 0, 0), (400, 0, 400), (1, 2, 3)):
            self.assertIsNone(check_stock(TABLE, stock))
            self.assertIsNone(check_bounds(TABLE, stock))
        self.assertIsNone(check_bounds(TABLE, (None, 0, None)))
        for row in ((), (2,), (0, 1, 2) * 3, (1,) * 400):
            self.assertIsNone(check_row(TABLE, row))
        self.assertIsNone(check_bounds(Table(("a",), ()), ()))

    def test_as_a_whole(self):
        for value in SINGLES + ((), (0,), (0, 0), (0, 0, 0, 0), [0, 0, 0], (Unfriendly(),)):
            for check, error in ((check_stock, InvalidStock), (check_bounds, InvalidBounds)):
                with self.assertRaises(error) as caught:
                    check(TABLE, value)
                self.assertEqual(-1, caught.exception.at)
        for value in SINGLES + ([0], (0,) * 401, (Unfriendly(),) * 401):
            with self.assertRaises(InvalidRow) as caught:
                check_row(TABLE, value)
            self.assertEqual(-1, caught.exception.at)
        self.assertEqual(("InvalidStock", -1), error_of(check_stock, Table(("a",), ()), ()))

    def test_items(self):
        for item in SINGLES + (401, (), (0,)):
            for at in range(3):
                value = (0, 400, 1)[:at] + (item,) + (Unfriendly(),) * (2 - at)
                self.assertEqual(("InvalidStock", at), error_of(check_stock, TABLE, value))
                first = at if item is not None else (at + 1 if at < 2 else None)
                expected = None if first is None else ("InvalidBounds", first)
                self.assertEqual(expected, error_of(check_bounds, TABLE, value))
        for item in SINGLES + (3, (), (0,)):
            self.assertEqual(("InvalidRow", 0), error_of(check_row, TABLE, (item, Unfriendly())))
            self.assertEqual(("InvalidRow", 399), error_of(check_row, TABLE, (2,) * 399 + (item,)))
        self.assertEqual(("InvalidRow", 0), error_of(check_row, Table(("a",), ()), (0,)))


class LessTest(unittest.TestCase):
    def test_without(self):
        self.assertEqual(Table(("barn", "cabin", "yurt"), (("tall", (0, 1)),)), without_types(TABLE, (0, 2)))
        self.assertEqual(TABLE, without_types(TABLE, ()))
        self.assertEqual((), without_types(TABLE, (0, 1, 2)).types)
        self.assertEqual(Table(("cabin", "yurt"), (("dry", (0,)), ("tall", (0,)), ("warm", (1,)))),
                         without_kinds(TABLE, (0,)))
        self.assertEqual(Table(("yurt",), (("dry", ()), ("tall", ()), ("warm", (0,)))), without_kinds(TABLE, (0, 1)))
        self.assertEqual(TABLE, without_kinds(TABLE, ()))
        self.assertEqual(("Refused", "kinds"), error_of(without_kinds, TABLE, (0, 1, 2)))

    def test_joined(self):
        table, places = joined_kinds(TABLE)
        self.assertEqual((0, 0, 1), places)
        self.assertEqual(Table(("barn", "yurt"), (("dry", (0,)), ("tall", (0,)), ("warm", (1,)))), table)
        table, places = joined_types(TABLE)
        self.assertEqual((0, 0, 1), places)
        self.assertEqual(Table(TABLE.kinds, (("dry", (0, 1)), ("warm", (2,)))), table)
        self.assertEqual((0, 0), joined_kinds(Table(("a", "b"), ()))[1])
        self.assertEqual((Table(("a",), ()), ()), joined_types(Table(("a",), ())))

    def test_joined_by_the_words(self):
        for table in random_tables(150, 3, 6, 6):
            joined, places = joined_kinds(table)
            self.assertEqual(len(joined.kinds), len(set(all_takers(table))))
            for kind, other in itertools.product(range(len(table.kinds)), repeat=2):
                self.assertEqual(takers(table, kind) == takers(table, other), places[kind] == places[other])
            for kind, place in enumerate(places):
                self.assertEqual(table.kinds[places.index(place)], joined.kinds[place])
                self.assertEqual(takers(table, kind), takers(joined, place))
            joined, places = joined_types(table)
            for request, place in enumerate(places):
                self.assertEqual(table.types[places.index(place)], joined.types[place])
                self.assertEqual(accepted(table, request), accepted(joined, place))
            self.assertEqual(len(set(lot for _, lot in table.types)), len(joined.types))

    def test_less_is_never_more(self):
        rng = random.Random(4)
        for _ in range(60):
            table = random_table(rng, 3, 3)
            if table.types and len(table.kinds) > 1:
                stock = tuple(rng.randint(0, 2) for _ in table.kinds)
                fewer = without_types(table, (0,))
                row = tuple(rng.randrange(1, len(table.types)) for _ in range(4)) if len(table.types) > 1 else ()
                self.assertEqual(most(table, stock, row),
                                 most(fewer, stock, tuple(request - 1 for request in row)))
                self.assertEqual(most(table, (0,) + stock[1:], row), most(without_kinds(table, (0,)), stock[1:], row))


if __name__ == "__main__":
    unittest.main()
