"""[69] Lots of types that block a remake."""

import random
import unittest

from helpers import SINGLES, Unfriendly, odd_values, random_table, subsets
from neverregret.blocking import blocking_types, does_block
from neverregret.moves import cheapest_remake
from neverregret.servings import grown_serving, served_places
from neverregret.tables import Table
from remakes import all_remakes, cases, does_lot_block

TABLE = Table(("l", "s"), (("any", (0, 1)), ("large", (0,)), ("small", (1,))))
CASE = (TABLE, (1, 1), (0, 1), (0, None))


class BlockingTest(unittest.TestCase):
    def test_by_hand(self):
        # who can be moved makes room, who stays does not
        self.assertIsNone(blocking_types(*CASE, (1,), (3, 0)))
        found = blocking_types(*CASE, (1,), (None, 0))
        self.assertIs(True, does_block(*CASE, (1,), (None, 0), found))
        self.assertIs(True, does_block(*CASE, (1,), (None, 0), (1,)))
        self.assertIs(False, does_block(*CASE, (1,), (3, 0), (1,)))
        self.assertIs(False, does_block(*CASE, (1,), (None, 0), (0, 1, 2)))
        self.assertIs(False, does_block(*CASE, (1,), (None, 0), ()))
        # the unit of a place that stays is left out, though its type is in the lot
        self.assertIs(False, does_block(*CASE, (1,), (None, 0), (1, 2)))
        self.assertIs(True, does_block(TABLE, (2, 0), (0, 1, 1), (0, None, None), (1, 2), (None, 0, 0), (0, 1)))
        self.assertIs(False, does_block(TABLE, (2, 0), (0, 1, 1), (0, None, None), (1,), (None, 0, 0), (0, 1)))

    def test_refused_places_that_are_not_asked_for(self):
        self.assertIs(False, does_block(TABLE, (1, 1), (0, 1, 1), (1, 0, None), (), (0, 0, 0), (1,)))
        self.assertIs(True, does_block(TABLE, (1, 1), (0, 1, 1), (1, 0, None), (2,), (0, 0, 0), (1,)))
        # None says nothing for a refused place
        self.assertIs(True, does_block(TABLE, (1, 1), (0, 1, 1), (1, 0, None), (2,), (0, 0, None), (1,)))
        self.assertIs(True, does_block(TABLE, (1, 1), (1, 1), (None, None), (0, 1), (None, None), (1,)))

    def test_by_trying(self):
        there = lacking = stays = 0
        for case in cases(400, 694):
            table = case[0]
            lots = subsets(range(len(table.types)))
            blocking = [lot for lot in lots if does_lot_block(*case, lot)]
            for lot in lots:
                self.assertIs(lot in blocking, does_block(*case, lot))
            found = blocking_types(*case)
            # there is a remake exactly if no lot blocks
            if all_remakes(*case):
                there += 1
                self.assertIsNone(found)
                self.assertEqual([], blocking)
            else:
                lacking += 1
                self.assertIn(found, blocking)
            stays += None in case[5]
        self.assertGreater(min(there, lacking, stays), 50)

    def test_edges(self):
        none = Table(("a",), (("p", ()),))
        self.assertEqual((0,), blocking_types(none, (5,), (0,), (None,), (0,), (0,)))
        self.assertIsNone(blocking_types(none, (5,), (0,), (None,), (), (0,)))
        self.assertIsNone(blocking_types(TABLE, (1, 1), (), (), (), ()))
        self.assertIsNone(blocking_types(*CASE, (), (None, 0)))
        self.assertIsNone(blocking_types(*CASE, (1,), (0, 0)))
        untaken = Table(("a", "b"), (("p", (0,)),))
        self.assertEqual((0,), blocking_types(untaken, (1, 9), (0, 0), (0, None), (1,), (0, 0)))

    def test_other_values(self):
        case = CASE + ((1,), (None, 0))
        for value in odd_values() + ([1], (True,), (1.0,), (1, 1), (2, 1), (3,), (-1,), (1, 3), "1", ((1,),)):
            self.assertIs(False, does_block(*case, value))
        for item in SINGLES + (Unfriendly(),):
            self.assertFalse(does_block(*case, (1, item)))

    def test_large(self):
        rng = random.Random(695)
        there = lacking = 0
        for _ in range(30):
            table = random_table(rng, 8, 12)
            if not table.types:
                continue
            stock = tuple(rng.choice((0, 1, 20, 50, 100)) for _ in table.kinds)
            row = tuple(rng.randrange(len(table.types)) for _ in range(rng.randint(100, 400)))
            serving = grown_serving(table, stock, row[:60], (None,) * 60) + (None,) * (len(row) - 60)
            refused = [place for place in range(len(row)) if place not in served_places(serving)]
            places = tuple(sorted(rng.sample(refused, rng.randint(0, min(len(refused), 60)))))
            costs = tuple(rng.choice((None, 0, 1, 3)) for _ in row)
            found = blocking_types(table, stock, row, serving, places, costs)
            remake = cheapest_remake(table, stock, row, serving, places, costs)
            self.assertEqual(found is None, remake is not None)
            if found is not None:
                lacking += 1
                self.assertTrue(does_block(table, stock, row, serving, places, costs, found))
            there += found is None
        self.assertGreater(min(there, lacking), 2)


if __name__ == "__main__":
    unittest.main()
