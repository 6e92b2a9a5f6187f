"""[10] Other names, tables by takers, pieces."""

import itertools
import random
import unittest

from helpers import SINGLES, Unfriendly, error_of, most, odd_values, random_tables
from neverregret.remade import are_alike, piece_table, pieces, renamed_table, table_by_takers
from neverregret.tables import Table, all_takers, takers

TABLE = Table(("barn", "cabin", "yurt"), (("dry", (0, 1)), ("tall", (0, 1)), ("warm", (2,))))


class RenamedTest(unittest.TestCase):
    def test_names(self):
        table, kinds, types = renamed_table(TABLE, ("z", "a", "m"), ("one", "two", "all"))
        self.assertEqual(Table(("a", "m", "z"), (("all", (1,)), ("one", (0, 2)), ("two", (0, 2)))), table)
        self.assertEqual(((2, 0, 1), (1, 2, 0)), (kinds, types))

    def test_by_the_words(self):
        rng = random.Random(5)
        for table in random_tables(100, 6, 8, 12):
            names = ["abcdefgh"[at:] + "x" * at for at in range(8)]
            new_kinds = tuple(rng.sample(names, len(table.kinds)))
            new_types = tuple(rng.sample([sign * size for sign in "zay" for size in range(1, 9)], len(table.types)))
            renamed, kinds, types = renamed_table(table, new_kinds, new_types)
            for kind, name in enumerate(new_kinds):
                self.assertEqual(name, renamed.kinds[kinds[kind]])
            for request, (_, lot) in enumerate(table.types):
                self.assertEqual((new_types[request], tuple(sorted(kinds[kind] for kind in lot))),
                                 renamed.types[types[request]])

    def test_wrong(self):
        for value in SINGLES + (("a", "b"), ("a", "b", "b"), ("a", "b", "C"), ["a", "b", "c"], ("a", "b", "c", "d"),
                                ("a", "b", 1), ("a", "b", Unfriendly()), ("a", "b", "abcdefghi"), ("a", "b", "")):
            self.assertEqual(("Refused", "kinds"), error_of(renamed_table, TABLE, value, Unfriendly()))
            self.assertEqual(("Refused", "types"), error_of(renamed_table, TABLE, ("a", "b", "c"), value))
        table = Table(("a",), ())
        self.assertEqual((table, (0,), ()), renamed_table(table, ("a",), ()))
        self.assertEqual(("Refused", "types"), error_of(renamed_table, table, ("a",), ("b",)))


class ByTakersTest(unittest.TestCase):
    def test_any_sequence(self):
        self.assertEqual(TABLE, table_by_takers(TABLE.kinds, ("dry", "tall", "warm"), ((1, 0), (0, 1), (2,))))
        self.assertEqual(Table(("a", "b"), (("t", (1,)),)), table_by_takers(("a", "b"), ("t",), ((), (0,))))
        self.assertEqual(Table(("a",), ()), table_by_takers(("a",), (), ((),)))

    def test_a_table_is_known_by_its_takers(self):
        for table in random_tables(100, 7, 8, 12):
            names = tuple(name for name, _ in table.types)
            self.assertEqual(table, table_by_takers(table.kinds, names, all_takers(table)))

    def test_wrong(self):
        for item in SINGLES + ((0, 0), (3,), (-1,), (True,), (None,), (0, Unfriendly()), ("a",), (0.0,), ((),)):
            self.assertEqual(("Refused", "takers"), error_of(table_by_takers, ("a", "b"), ("t", "u", "v"), ((), item)))
        for lots in odd_values() + (((),), ((), (), ()), [(), ()]):
            if isinstance(lots, tuple) and len(lots) == 2 and lots[0] == () and lots[1] == ():
                continue
            self.assertEqual(("Refused", "takers"), error_of(table_by_takers, ("a", "b"), ("t",), lots))


class PiecesTest(unittest.TestCase):
    def test_example(self):
        self.assertEqual((((0, 1), (0, 1)), ((2,), (2,))), pieces(TABLE))

    def test_edges(self):
        table = Table(("a", "b", "c"), (("t", ()), ("u", (0, 2)), ("v", ())))
        self.assertEqual((((0, 2), (1,)), ((1,), ()), ((), (0,)), ((), (2,))), pieces(table))
        self.assertEqual(Table(("a", "c"), (("u", (0, 1)),)), piece_table(table, ((0, 2), (1,))))
        self.assertEqual(Table(("b",), ()), piece_table(table, ((1,), ())))
        self.assertEqual(("Refused", "kinds"), error_of(piece_table, table, ((), (2,))))
        self.assertEqual((((0,), ()),), pieces(Table(("a",), ())))

    def test_chain(self):
        chain = Table(tuple("abcdefgh"), tuple(zip("pqrstuv", ((at, at + 1) for at in range(7)))))
        self.assertEqual(((tuple(range(8)), tuple(range(7))),), pieces(chain))

    def test_by_the_words(self):
        for table in random_tables(150, 8, 5, 5):
            found = pieces(table)
            self.assertEqual(list(range(len(table.kinds))), sorted(kind for kinds, _ in found for kind in kinds))
            self.assertEqual(list(range(len(table.types))), sorted(number for _, types in found for number in types))
            with_kinds = [piece for piece in found if piece[0]]
            self.assertEqual(found, tuple(sorted(with_kinds)) + tuple(sorted(found[len(with_kinds):])))
            for kinds, types in found:
                for kind in kinds:
                    self.assertTrue(set(takers(table, kind)) <= set(types))
                for request in types:
                    self.assertTrue(set(table.types[request][1]) <= set(kinds))
                # no part of a piece is closed like that
                for part in [part for size in range(1, len(kinds)) for part in itertools.combinations(kinds, size)]:
                    around = {request for kind in part for request in takers(table, kind)}
                    self.assertFalse({kind for request in around for kind in table.types[request][1]} <= set(part)
                                     and around)
                if kinds:
                    small = piece_table(table, (kinds, types))
                    self.assertEqual(tuple(table.kinds[kind] for kind in kinds), small.kinds)
                    for (name, lot), request in zip(small.types, types):
                        self.assertEqual(table.types[request], (name, tuple(kinds[kind] for kind in lot)))

    def test_most_is_the_sum_over_pieces(self):
        rng = random.Random(9)
        for table in random_tables(60, 10, 3, 3):
            stock = tuple(rng.randint(0, 2) for _ in table.kinds)
            row = tuple(rng.randrange(len(table.types)) for _ in range(4)) if table.types else ()
            total = 0
            for kinds, types in pieces(table):
                if kinds:
                    part = tuple(types.index(request) for request in row if request in types)
                    total += most(piece_table(table, (kinds, types)), tuple(stock[kind] for kind in kinds), part)
            self.assertEqual(most(table, stock, row), total)

    def test_alike(self):
        self.assertEqual([True, True, False, True], [are_alike(TABLE, *pair) for pair in
                                                     ((0, 1), (1, 0), (1, 2), (2, 2))])


if __name__ == "__main__":
    unittest.main()
