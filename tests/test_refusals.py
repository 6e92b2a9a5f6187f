"""[31] Lots that clear refusals."""

import random
import unittest

from helpers import SINGLES, Unfriendly, all_servings, error_of, odd_values, random_tables, regrets_by_trying, subsets
from neverregret.reader import read_table
from neverregret.refusals import is_refusal_lot, refusal_lot, refusal_lots
from neverregret.tables import Table, accepted

TABLE = read_table("bike: lane road\ncart: road\nskate: lane park road")
CASE = ((1, 1, 2), (2, 0, 1, 2, 1), (1, 0, 2, 2, None))


def clears(table, stock, row, serving, place, lot):
    """Return whether a lot clears a refusal, word by word."""
    if row[place] not in lot:
        return False
    for kind in {kind for request in lot for kind in accepted(table, request)}:
        handed = sum(1 for at in range(place) if serving[at] == kind and row[at] in lot)
        if handed != stock[kind]:
            return False
    return True


class RefusalTest(unittest.TestCase):
    def test_examples(self):
        self.assertEqual({4: (0, 1, 2)}, refusal_lots(TABLE, *CASE))
        self.assertIs(False, is_refusal_lot(TABLE, *CASE, 4, (1, 2)))
        self.assertIs(True, is_refusal_lot(TABLE, *CASE, 4, (0, 1, 2)))
        self.assertEqual((0, 1, 2), refusal_lot(TABLE, *CASE, 4))

    def test_edges(self):
        none = Table(("a",), (("p", ()), ("q", (0,))))
        self.assertEqual((0,), refusal_lot(none, (3,), (0,), (None,), 0))
        self.assertTrue(is_refusal_lot(none, (3,), (0,), (None,), 0, (0,)))
        self.assertEqual((1,), refusal_lot(none, (0,), (1,), (None,), 0))
        self.assertIsNone(refusal_lot(none, (1,), (1,), (None,), 0))
        self.assertTrue(is_refusal_lot(none, (0,), (1,), (None,), 0, (0, 1)))
        self.assertFalse(is_refusal_lot(none, (0,), (1,), (None,), 0, (0,)))
        # a unit handed out behind the place clears nothing
        self.assertEqual({0: None}, refusal_lots(none, (1,), (1, 1), (None, 0)))
        self.assertEqual({}, refusal_lots(none, (1,), (), ()))
        self.assertEqual({1: (1,), 2: (0,)}, refusal_lots(none, (1,), (1, 1, 0), (0, None, None)))

    def test_by_trying(self):
        rng = random.Random(310)
        cleared = regretted = 0
        for table in random_tables(60, 311, 3, 3):
            if not table.types:
                continue
            stock = tuple(rng.randint(0, 2) for _ in table.kinds)
            row = tuple(rng.randrange(len(table.types)) for _ in range(rng.randint(1, 5)))
            servings = all_servings(table, stock, row)
            for serving in rng.sample(servings, min(len(servings), 12)):
                found = refusal_lots(table, stock, row, serving)
                self.assertEqual([at for at, kind in enumerate(serving) if kind is None], list(found))
                regrets = regrets_by_trying(table, stock, row, serving)
                for place, lot in found.items():
                    self.assertEqual(lot, refusal_lot(table, stock, row, serving, place))
                    lots = subsets(range(len(table.types)))
                    right = [part for part in lots if clears(table, stock, row, serving, place, part)]
                    for part in lots:
                        self.assertEqual(part in right, is_refusal_lot(table, stock, row, serving, place, part))
                    self.assertEqual(place in regrets, lot is None)
                    self.assertEqual(place in regrets, not right)
                    if right:
                        self.assertEqual(set.intersection(*[set(part) for part in right]), set(lot))
                        self.assertIn(lot, right)
                        cleared += 1
                    else:
                        regretted += 1
        self.assertGreater(min(cleared, regretted), 100)

    def test_places(self):
        for place in odd_values() + (0, 1, 3, 5, -1, 400, (4,)):
            self.assertEqual(("Refused", "place"), error_of(refusal_lot, TABLE, *CASE, place))
            for value in ((0, 1, 2), None, Unfriendly()):
                self.assertEqual(("Refused", "place"), error_of(is_refusal_lot, TABLE, *CASE, place, value))
        for place in (False, True, None):
            self.assertEqual(("Refused", "place"), error_of(refusal_lot, TABLE, (0, 0, 0), (0, 0), (None, None), place))

    def test_other_values(self):
        for value in odd_values() + ([0, 1, 2], (0, 1, 2, 3), (0, 2, 1), (0, 1, 1, 2), (2, 1, 0), (0, 1, True),
                                     (False, 1, 2), ()):
            self.assertIs(False, is_refusal_lot(TABLE, *CASE, 4, value))
        for item in SINGLES:
            self.assertFalse(is_refusal_lot(TABLE, *CASE, 4, (0, 1, item)))

    def test_large(self):
        row = (0, 1) * 200
        serving = (0,) * 200 + (None,) * 200
        table = Table(("a", "b"), (("p", (0,)), ("q", (0,))))
        found = refusal_lots(table, (200, 9), row, serving)
        self.assertEqual({place: (0, 1) for place in range(200, 400)}, found)


if __name__ == "__main__":
    unittest.main()
