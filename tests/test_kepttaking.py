"""[49] A taking kept up."""

import random
import unittest

from helpers import error_of, random_table, random_tables, subsets
from neverregret.full import greatest_within
from neverregret.fullpapers import is_full_paper, paper_rest
from neverregret.gaps import worst_gap
from neverregret.kepttaking import KeptTaking
from neverregret.takings import greatest_taking, is_taking, taken_units
from neverregret.tables import Table

TABLE = Table(("attic", "cellar"), (("any", (0, 1)), ("dark", (1,)), ("light", (0,))))
CHAIN = Table(tuple("abcdefgh"), tuple(zip("pqrstuvw", ((at,) if at == 7 else (at, at + 1) for at in range(8)))))
WORDS = ("unit_comes", "unit_goes", "bound_rises", "bound_falls")


def state(kept):
    """Return all that is kept."""
    return (kept.table, kept.stock, kept.bounds, kept.types, kept.present_taking(), kept.present_gap(),
            kept.present_rest())


def changed(stock, bounds, word, number):
    """Return the stock and the bounds behind a change, or the word of its refusal."""
    stock, bounds = list(stock), list(bounds)
    if word == "unit_comes":
        if stock[number] >= 400:
            return "units"
        stock[number] += 1
    elif word == "unit_goes":
        if stock[number] == 0:
            return "unit"
        stock[number] -= 1
    elif bounds[number] is not None:
        if word == "bound_rises":
            if bounds[number] >= 400:
                return "bounds"
            bounds[number] += 1
        else:
            if bounds[number] == 0:
                return "bound"
            bounds[number] -= 1
    return tuple(stock), tuple(bounds)


class KeptTakingTest(unittest.TestCase):
    def check(self, kept, table, stock, bounds, types):
        taking = kept.present_taking()
        self.assertEqual((stock, bounds, types), (kept.stock, kept.bounds, kept.types))
        self.assertTrue(is_taking(table, stock, bounds, taking))
        self.assertTrue(all(request in types or not any(units) for request, units in enumerate(taking)))
        self.assertEqual(taken_units(greatest_taking(table, stock, bounds, types)), taken_units(taking))
        self.assertEqual(worst_gap(table, stock, bounds, types), kept.present_gap())
        self.assertEqual(greatest_within(table, stock, bounds, types), kept.present_rest())
        paper = kept.present_paper()
        self.assertTrue(is_full_paper(table, stock, bounds, paper))
        self.assertEqual((types, kept.present_rest()), (paper.types, paper_rest(table, paper)))

    def walk(self, rng, table, stock, bounds, types, steps):
        kept = KeptTaking(table, stock, bounds, types)
        self.check(kept, table, stock, bounds, types)
        for _ in range(steps):
            word = rng.choice(WORDS)
            many = len(table.types) if word.startswith("bound") else len(table.kinds)
            if many == 0:
                continue
            number = rng.randrange(many)
            before = state(kept)
            behind = changed(stock, bounds, word, number)
            if isinstance(behind, str):
                self.assertEqual(("Refused", behind), error_of(getattr(kept, word), number))
                self.assertEqual(before, state(kept))
                continue
            self.assertIsNone(getattr(kept, word)(number))
            stock, bounds = behind
            self.check(kept, table, stock, bounds, types)
            for old, new in zip(before[4], kept.present_taking()):
                self.assertLessEqual(max([abs(a - b) for a, b in zip(old, new)], default=0), 1)

    def test_walks(self):
        rng = random.Random(490)
        for table in random_tables(60, 491, 4, 4):
            stock = tuple(rng.randint(0, 2) for _ in table.kinds)
            bounds = tuple(rng.choice((None, 0, 1, 2)) for _ in table.types)
            self.walk(rng, table, stock, bounds, rng.choice(subsets(range(len(table.types)))), 30)

    def test_large_walks(self):
        rng = random.Random(492)
        for _ in range(12):
            table = random_table(rng, 8, 12)
            stock = tuple(rng.choice((0, 1, 200, 399, 400)) for _ in table.kinds)
            bounds = tuple(rng.choice((None, 0, 1, 150, 399, 400)) for _ in table.types)
            self.walk(rng, table, stock, bounds, tuple(range(len(table.types))), 25)
        self.walk(rng, CHAIN, (2,) * 8, (2,) * 8, tuple(range(8)), 150)

    def test_ordinary(self):
        kept = KeptTaking(table=TABLE, stock=(2, 1), bounds=(3, 1, 1), types=(1, 2))
        self.assertEqual((TABLE, (2, 1), (3, 1, 1), (1, 2), ((0, 0), (0, 1), (1, 0)), (0,), (1,)), state(kept))
        kept.bound_rises(request=2)
        self.assertEqual((TABLE, (2, 1), (3, 1, 2), (1, 2), ((0, 0), (0, 1), (2, 0)), (), (1, 2)), state(kept))
        kept.unit_goes(kind=0)
        kept.bound_falls(request=1)
        self.assertEqual((TABLE, (1, 1), (3, 0, 2), (1, 2), ((0, 0), (0, 0), (1, 0)), (1,), (2,)), state(kept))
        kept.unit_comes(kind=0)
        kept.bound_falls(request=0)
        self.assertEqual((TABLE, (2, 1), (2, 0, 2), (1, 2), ((0, 0), (0, 0), (2, 0)), (1,), (2,)), state(kept))

    def test_edges(self):
        kept = KeptTaking(TABLE, (0, 400), (None, 0, 400), (0, 1, 2))
        before = state(kept)
        for word, number, refused in (("unit_goes", 0, "unit"), ("unit_comes", 1, "units"), ("bound_falls", 1, "bound"),
                                      ("bound_rises", 2, "bounds")):
            self.assertEqual(("Refused", refused), error_of(getattr(kept, word), number))
        kept.bound_rises(0)
        kept.bound_falls(0)
        self.assertEqual(before, state(kept))
        self.assertEqual(((0, 400), (0, 0), (0, 0)), kept.present_taking())
        kept.bound_falls(2)
        kept.bound_rises(2)
        kept.bound_rises(1)
        kept.unit_goes(1)
        kept.unit_comes(0)
        self.assertEqual(((1, 399), (None, 1, 400)), (kept.stock, kept.bounds))
        none = KeptTaking(Table(("a",), ()), (1,), (), ())
        none.unit_comes(0)
        none.unit_goes(0)
        none.unit_goes(0)
        self.assertEqual((none.table, (0,), (), (), (), (), ()), state(none))
        nobody = KeptTaking(TABLE, (1, 1), (1, 1, 1), ())
        nobody.bound_rises(0)
        self.assertEqual((((0, 0),) * 3, ()), (nobody.present_taking(), nobody.present_gap()))

    def test_arguments_stay(self):
        stock, bounds = (1, 1), (1, 1, 1)
        kept = KeptTaking(TABLE, stock, bounds, (0, 1, 2))
        taking = kept.present_taking()
        kept.unit_goes(0)
        kept.bound_falls(1)
        self.assertEqual(((1, 1), (1, 1, 1)), (stock, bounds))
        self.assertEqual(2, taken_units(taking))


if __name__ == "__main__":
    unittest.main()
