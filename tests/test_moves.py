"""[68] Remakes, and of [69] when there is one, and the steps to it."""

import itertools
import unittest

from helpers import SINGLES, Unfriendly, all_servings, odd_values, subsets
from neverregret.moves import cheapest_remake, is_remake, moved_places, remake_cost, remake_costs
from neverregret.movesteps import move_order, steps_between
from neverregret.plain import is_serving, left_stock
from neverregret.tables import Table
from remakes import all_remakes, cases, dear_cases, does_lot_block

TABLE = Table(("l", "s"), (("any", (0, 1)), ("large", (0,)), ("small", (1,))))
CASE = (TABLE, (1, 1), (0, 1), (0, None))
CHAIN = Table(tuple("abcdefgh"), tuple(zip("pqrstuvw", ((at,) if at == 7 else (at, at + 1) for at in range(8)))))


class RemakeTest(unittest.TestCase):
    def test_examples(self):
        self.assertEqual((1, 0), cheapest_remake(*CASE, (1,), (3, 0)))
        self.assertEqual((0, 3), remake_costs(*CASE, (1,), (3, 0)))

    def test_moved(self):
        self.assertEqual((0, 3), moved_places((0, 1, None, 2, None), (1, 1, 0, 0, None)))
        self.assertEqual((0,), moved_places((0, 1), (1, 1, 2)))
        self.assertEqual((0,), moved_places((0, 1, 2), (1,)))
        self.assertEqual((), moved_places((0, None), (None, 0)))
        self.assertEqual((), moved_places((), ()))
        self.assertEqual(7, remake_cost((0, 1, None, 2), (3, 9, None, 4), (1, 1, 0, 0)))
        self.assertEqual(0, remake_cost((), (), ()))

    def test_edges(self):
        # nothing to serve, nothing moves
        self.assertEqual(((0, None), (0,)), (cheapest_remake(*CASE, (), (3, 0)), remake_costs(*CASE, (), (3, 0))))
        self.assertEqual(((), (0,)), (cheapest_remake(TABLE, (1, 1), (), (), (), ()),
                                      remake_costs(TABLE, (1, 1), (), (), (), ())))
        # who stays makes no room, and None says nothing for a refused place
        self.assertEqual((None, (0,)), (cheapest_remake(*CASE, (1,), (None, 0)), remake_costs(*CASE, (1,), (None, 0))))
        self.assertEqual((1, 0), cheapest_remake(*CASE, (1,), (0, None)))
        self.assertEqual((0, 0), remake_costs(*CASE, (1,), (0, None)))
        self.assertIsNone(cheapest_remake(TABLE, (1, 0), (0, 1), (0, None), (1,), (3, 0)))
        none = Table(("a",), (("t", ()),))
        self.assertIsNone(cheapest_remake(none, (5,), (0,), (None,), (0,), (0,)))
        self.assertEqual((10 ** 40, (0, 10 ** 40)), (remake_cost((0, None), (10 ** 40, 0), (1, 0)),
                                                     remake_costs(*CASE, (1,), (10 ** 40, 0))))

    def test_as_far_as_there_is_one(self):
        row, serving = (1, 1, 0, 1), (None, None, 0, None)
        self.assertEqual((0, 4), remake_costs(TABLE, (1, 1), row, serving, (0, 1, 3), (0, 0, 4, 0)))
        self.assertIsNone(cheapest_remake(TABLE, (1, 1), row, serving, (0, 1, 3), (0, 0, 4, 0)))
        self.assertEqual((0, 0, 0, 4), remake_costs(TABLE, (3, 1), row, serving, (0, 1, 3), (0, 0, 4, 0)))
        self.assertEqual((0, 0, 0, 4), remake_costs(TABLE, (3, 1), row, serving, (0, 1, 3), (None, None, 4, None)))
        self.assertEqual((0, 0, 0), remake_costs(TABLE, (3, 1), row, serving, (0, 1, 3), (0, 0, None, 0)))

    def test_by_trying(self):
        there = lacking = 0
        for case in cases(200, 680) + dear_cases(150, 683):
            table, stock, row, serving, places, costs = case
            remakes = all_remakes(*case)
            for value in all_servings(table, stock, row):
                self.assertEqual(value in [remake for _, remake in remakes], is_remake(*case, value))
            found = cheapest_remake(*case)
            if remakes:
                there += 1
                self.assertEqual(min(remakes)[0], remake_cost(serving, costs, found))
                self.assertIn((min(remakes)[0], found), remakes)
            else:
                lacking += 1
                self.assertIsNone(found)
            blocking = [lot for lot in subsets(range(len(table.types))) if does_lot_block(*case, lot)]
            self.assertEqual(bool(remakes), not blocking)
            least = []
            for many in range(len(places) + 1):
                part = all_remakes(table, stock, row, serving, places[:many], costs)
                if not part:
                    break
                least.append(min(part)[0])
            self.assertEqual(tuple(least), remake_costs(*case))
        self.assertGreater(min(there, lacking), 50)

    def test_who_moves_for_one_place_may_move_on_for_the_next_one(self):
        """A place that was moved for the first of the places costs nothing more, or goes back for the second one."""
        for lots, stock, row, serving, places, costs, least in (
                (((0, 1, 3), (0, 1, 3), (2,), (1, 2, 3), (0, 1)), (2, 1, 2, 2), (4, 0, 3, 2, 4, 2),
                 (0, 0, 2, None, None, 2), (3, 4), (2, 3, 2, 5, 2, 8), 2),
                (((2, 3), (0, 1, 2, 3), (1, 3), (0, 3), (3,)), (1, 1, 1, 2), (0, 1, 3, 1, 0), (None, 3, None, 2, 3),
                 (0, 2), (3, 8, 8, 5, 2), 5),
                (((0, 1, 3), (0, 2), (0, 1, 2), (0, 2), (1, 2)), (1, 1, 1, 2), (2, 0, 0, 3, 4), (2, 3, 0, None, None),
                 (3, 4), (8, 8, 8, 8, 1), 8),
                (((0, 1), (1, 3), (1,), (2, 3), (0, 1, 2, 3)), (1, 2, 1, 1), (0, 1, 2, 0), (1, 1, None, None), (2, 3),
                 (1, 3, 8, 3), 3)):
            table = Table(("a", "b", "c", "d"), tuple(zip("pqrst", lots)))
            case = (table, stock, row, serving, places, costs)
            remake = cheapest_remake(*case)
            self.assertTrue(is_remake(*case, remake))
            self.assertEqual(least, remake_cost(serving, costs, remake))
            self.assertEqual(least, min(all_remakes(*case))[0])
            self.assertEqual(least, remake_costs(*case)[-1])

    def test_places_of_one_type(self):
        many = 0
        for case in cases(500, 681):
            table, stock, row, serving, places, costs = case
            if len({row[place] for place in places}) == 1:
                found = remake_costs(*case)
                steps = [behind - before for before, behind in zip(found, found[1:])]
                self.assertEqual(sorted(steps), steps)
                many += len(found) > 2
        self.assertGreater(many, 10)

    def test_one_place_with_costs_of_1(self):
        for case in cases(200, 682, (1,)):
            table, stock, row, serving, places, costs = case
            for place in places:
                found = cheapest_remake(table, stock, row, serving, (place,), costs)
                if found is not None:
                    self.assertLess(len(moved_places(serving, found)), len(table.kinds))

    def test_chain(self):
        row = tuple(range(8)) + (0,)
        serving = (1, 2, 3, 4, 5, 6, 7, None, 0)
        remake = cheapest_remake(CHAIN, (1,) * 8, row, serving, (7,), (1,) * 9)
        self.assertIsNone(remake)
        serving = (1, 2, 3, 4, 5, 6, 7, None, None)
        remake = cheapest_remake(CHAIN, (1,) * 8, row, serving, (7,), (1,) * 9)
        self.assertEqual((0, 1, 2, 3, 4, 5, 6, 7, None), remake)
        self.assertEqual((0, 7), remake_costs(CHAIN, (1,) * 8, row, serving, (7,), (1,) * 9))
        order = move_order((1,) * 8, serving, remake)
        self.assertEqual((0, 1, 2, 3, 4, 5, 6, 7), order)
        self.assertEqual(remake, steps_between(serving, remake, order)[-1])

    def test_large(self):
        row = (0,) * 200 + (1,) * 200
        serving = (0,) * 200 + (None,) * 200
        costs = tuple(range(200)) + (None,) * 200
        remake = cheapest_remake(TABLE, (200, 200), row, serving, tuple(range(200, 400)), costs)
        self.assertEqual((1,) * 200 + (0,) * 200, remake)
        found = remake_costs(TABLE, (200, 200), row, serving, tuple(range(200, 400)), costs)
        self.assertEqual(tuple(itertools.accumulate([0] + list(range(200)))), found)

    def test_other_values(self):
        right = (1, 0)
        self.assertIs(True, is_remake(*CASE, (1,), (3, 0), right))
        for value in odd_values() + ([1, 0], (1,), (1, 0, 0), (0, None), (None, 0), (1, None), (True, 0), (1, False),
                                     (0, 0), (0, 1), (1, 1), (2, 0), (-1, 0)):
            self.assertIs(False, is_remake(*CASE, (1,), (3, 0), value))
        for item in SINGLES:
            self.assertFalse(is_remake(*CASE, (1,), (3, 0), (1, item)))
        self.assertFalse(is_remake(*CASE, (1,), (3, 0), (Unfriendly(), Unfriendly())))
        self.assertFalse(is_remake(*CASE, (1,), (None, 0), right))
        self.assertTrue(is_remake(*CASE, (), (None, 0), (0, None)))
        self.assertTrue(is_remake(*CASE, (), (2, 0), (1, None)))
        self.assertFalse(is_remake(*CASE, (), (2, 0), (1, 0)))
        self.assertFalse(is_remake(*CASE, (), (2, 0), (None, None)))


class StepsTest(unittest.TestCase):
    def test_ordinary(self):
        self.assertEqual((0, 1), move_order((1, 1), (0, None), (1, 0)))
        self.assertEqual((), move_order((1, 1), (0, None), (0, None)))
        self.assertEqual(((0, None), (1, None), (1, 0)), steps_between((0, None), (1, 0), (0, 1)))
        self.assertEqual(((0, None),), steps_between((0, None), (1, 0), ()))
        self.assertEqual(((0, None), (1, None)), steps_between((0, None), (1, 0), (0,)))
        self.assertEqual(((),), steps_between((), (), ()))

    def test_there_always_is_an_order(self):
        many = 0
        for case in cases(700, 690, (None, 1, 1, 2, 3)):
            table, stock, row, serving, places, costs = case
            remakes = all_remakes(*case)
            least = min([cost for cost, _ in remakes], default=None)
            for remake in [value for cost, value in remakes if cost == least]:
                order = move_order(stock, serving, remake)
                self.assertEqual([at for at in range(len(row)) if serving[at] != remake[at]], sorted(order))
                steps = steps_between(serving, remake, order)
                self.assertEqual((serving, remake, len(order) + 1), (steps[0], steps[-1], len(steps)))
                for before, step, place in zip(steps, steps[1:], order):
                    self.assertGreater(left_stock(stock, before)[remake[place]], 0)
                    self.assertTrue(is_serving(table, stock, row, step))
                    self.assertEqual([place], [at for at in range(len(row)) if before[at] != step[at]])
                many += len(order) > 1
        self.assertGreater(many, 50)

    def test_large(self):
        row = (0,) * 200 + (1,) * 200
        serving = (0,) * 200 + (None,) * 200
        remake = (1,) * 200 + (0,) * 200
        order = move_order((200, 200), serving, remake)
        steps = steps_between(serving, remake, order)
        self.assertEqual(401, len(steps))
        self.assertTrue(all(is_serving(TABLE, (200, 200), row, step) for step in steps))


if __name__ == "__main__":
    unittest.main()
