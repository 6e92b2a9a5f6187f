"""[41] Buying and [42] selling along a forest."""

import itertools
import random
import unittest

from helpers import Unfriendly, error_of, odd_values, random_tables
from neverregret.buying import price_of_all, purchase_for, purchases_in_turn, sales_in_turn
from neverregret.court import court, is_forest
from neverregret.forests import place_of_kind, way_up
from neverregret.reader import read_table
from neverregret.tables import Table
from neverregret.upward import dry_places, refused_count, spare_units

FOREST = court(read_table("bike: lane road\ncart: road\nskate: lane park road"))
TABLES = [table for table in random_tables(260, 410, 4, 4) if is_forest(table)][:110]


def with_more(stock, kinds, by):
    """Return the stock with a unit more, or less, of each of these kinds."""
    return tuple(units + by * kinds.count(kind) for kind, units in enumerate(stock))


def cases(seed, most_price=4):
    """Return small forests with a stock, counts and prices each."""
    rng = random.Random(seed)
    found = []
    for table in TABLES:
        stock = tuple(rng.randint(0, 2) for _ in table.kinds)
        counts = tuple(rng.randint(0, 2) for _ in table.types)
        prices = tuple(rng.randint(0, most_price) for _ in table.kinds)
        found.append((court(table), stock, counts, prices))
    return found


class BuyingTest(unittest.TestCase):
    def test_examples(self):
        self.assertEqual((1, 1, 0), purchases_in_turn(FOREST, (0, 0, 1), (2, 0, 2), (5, 3, 9)))
        self.assertEqual(11, price_of_all(FOREST, (0, 0, 1), (2, 0, 2), (5, 3, 9)))

    def test_one_after_another(self):
        for forest, stock, counts, prices in cases(411):
            present, expected = stock, []
            while True:
                before = refused_count(forest, present, counts)
                helping = [kind for kind in range(len(stock))
                           if refused_count(forest, with_more(present, (kind,), 1), counts) < before]
                dry = dry_places(forest, present, counts)
                self.assertEqual([kind for kind in range(len(stock)) if place_of_kind(forest, kind) in dry], helping)
                if not helping:
                    break
                expected.append(min(helping, key=lambda kind: (prices[kind], kind)))
                present = with_more(present, expected[-1:], 1)
            bought = purchases_in_turn(forest, stock, counts, prices)
            self.assertEqual(tuple(expected), bought)
            homeless = any(count and home == -1 for count, home in zip(counts, forest.homes))
            total = sum(prices[kind] for kind in bought)
            self.assertEqual(None if homeless else total, price_of_all(forest, stock, counts, prices))
            for money in range(total + 2):
                part = purchase_for(forest, stock, counts, prices, money)
                self.assertEqual(bought[:len(part)], part)
                self.assertLessEqual(sum(prices[kind] for kind in part), money)
                if len(part) < len(bought):
                    self.assertGreater(sum(prices[kind] for kind in bought[:len(part) + 1]), money)

    def test_no_purchase_is_better(self):
        for forest, stock, counts, prices in cases(412, 3)[::2]:
            before = refused_count(forest, stock, counts)
            bought = purchases_in_turn(forest, stock, counts, prices)
            for many in range(4):
                for kinds in itertools.combinations_with_replacement(range(len(stock)), many):
                    cost = sum(prices[kind] for kind in kinds)
                    more = before - refused_count(forest, with_more(stock, kinds, 1), counts)
                    self.assertLessEqual(sum(prices[kind] for kind in bought[:more]), cost)
                    self.assertLessEqual(more, len(purchase_for(forest, stock, counts, prices, cost)))
            for at in range(len(bought) + 1):
                self.assertEqual(before - at, refused_count(forest, with_more(stock, bought[:at], 1), counts))

    def test_edges(self):
        # prices of 0 and equal prices: the least kind first
        self.assertEqual((0, 0, 0), purchases_in_turn(FOREST, (0, 0, 1), (2, 0, 2), (0, 0, 0)))
        self.assertEqual((2, 2, 2), purchases_in_turn(FOREST, (0, 0, 1), (2, 0, 2), (7, 7, 6)))
        self.assertEqual((0, 0, 0), purchase_for(FOREST, (0, 0, 1), (2, 0, 2), (0, 0, 0), 0))
        self.assertEqual((1, 1, 0), purchases_in_turn(FOREST, (0, 0, 1), (2, 0, 2), (7, 6, 7)))
        self.assertEqual((), purchase_for(FOREST, (0, 0, 1), (2, 0, 2), (1, 1, 1), 0))
        self.assertEqual((1,), purchase_for(FOREST, (0, 0, 1), (2, 0, 2), (5, 3, 9), 5))
        self.assertEqual((1, 1), purchase_for(FOREST, (0, 0, 1), (2, 0, 2), (5, 3, 9), 10))
        self.assertEqual((1, 1, 0), purchase_for(FOREST, (0, 0, 1), (2, 0, 2), (5, 3, 9), 11))
        self.assertEqual((1, 1, 0), purchase_for(FOREST, (0, 0, 1), (2, 0, 2), (5, 3, 9), 10 ** 40))
        self.assertEqual((0, ()), (price_of_all(FOREST, (1, 1, 1), (0, 0, 0), (5, 3, 9)),
                                   purchases_in_turn(FOREST, (1, 1, 1), (0, 0, 0), (5, 3, 9))))

    def test_requests_without_a_home(self):
        forest = court(Table(("a", "b"), (("p", ()), ("q", (0,)))))
        self.assertEqual(((0, 0), None), (purchases_in_turn(forest, (0, 0), (3, 2), (4, 1)),
                                          price_of_all(forest, (0, 0), (3, 2), (4, 1))))
        self.assertEqual(8, price_of_all(forest, (0, 0), (0, 2), (4, 1)))
        self.assertEqual((0,), purchase_for(forest, (0, 0), (3, 2), (4, 1), 7))
        self.assertEqual((0, 0), purchase_for(forest, (0, 0), (3, 2), (4, 1), 8))
        none = court(Table(("a",), ()))
        self.assertEqual(((), 0), (purchases_in_turn(none, (1,), (), (2,)), price_of_all(none, (1,), (), (2,))))
        self.assertEqual(((), (0,)), (purchase_for(none, (1,), (), (2,), 9), sales_in_turn(none, (1,), (), (2,))))

    def test_large(self):
        bought = purchases_in_turn(FOREST, (0, 0, 0), (400, 400, 400), (1, 2, 3))
        self.assertEqual((0,) * 800 + (2,) * 400, bought)
        self.assertEqual((1,) * 400 + (0,) * 400 + (2,) * 400,
                         purchases_in_turn(FOREST, (0, 0, 0), (400, 400, 400), (2, 1, 3)))
        self.assertEqual(2000, price_of_all(FOREST, (0, 0, 0), (400, 400, 400), (1, 2, 3)))
        prices = (10 ** 30 + 1, 10 ** 30 + 1, 10 ** 30)
        self.assertEqual((2, 2), purchase_for(FOREST, (400, 400, 397), (400,) * 3, prices, 3 * 10 ** 30 - 1))


class SellingTest(unittest.TestCase):
    def test_examples(self):
        self.assertEqual((2, 1), sales_in_turn(FOREST, (1, 2, 2), (2, 0, 1), (5, 3, 9)))

    def test_one_after_another(self):
        for forest, stock, counts, prices in cases(413):
            present, expected = stock, []
            while True:
                before = refused_count(forest, present, counts)
                spare = spare_units(forest, present, counts)
                missed = [kind for kind in range(len(stock)) if present[kind]
                          and refused_count(forest, with_more(present, (kind,), -1), counts) == before]
                for kind in range(len(stock)):
                    places = way_up(forest, place_of_kind(forest, kind))
                    self.assertEqual(kind in missed, present[kind] > 0
                                     and (not places or any(spare[place] for place in places)))
                if not missed:
                    break
                expected.append(min(missed, key=lambda kind: (-prices[kind], kind)))
                present = with_more(present, expected[-1:], -1)
            self.assertEqual(tuple(expected), sales_in_turn(forest, stock, counts, prices))

    def test_no_sale_is_better(self):
        for forest, stock, counts, prices in cases(414)[::2]:
            before = refused_count(forest, stock, counts)
            sold = sales_in_turn(forest, stock, counts, prices)
            for many in range(1, 5):
                for kinds in itertools.combinations_with_replacement(range(len(stock)), many):
                    less = with_more(stock, kinds, -1)
                    if min(less) >= 0 and refused_count(forest, less, counts) == before:
                        self.assertGreaterEqual(len(sold), many)
                        self.assertGreaterEqual(sum(prices[kind] for kind in sold[:many]),
                                                sum(prices[kind] for kind in kinds))

    def test_edges(self):
        forest = court(Table(("a", "b", "c"), (("p", ()), ("q", (0, 2)))))
        # kinds without takers can always be missed; of equal prices the least kind goes first
        self.assertEqual((1, 1, 0), sales_in_turn(forest, (1, 2, 1), (5, 1), (0, 4, 0)))
        self.assertEqual((1, 1), sales_in_turn(forest, (1, 2, 1), (0, 2), (9, 0, 9)))
        self.assertEqual((0, 1, 1, 2), sales_in_turn(forest, (1, 2, 1), (5, 0), (3, 3, 3)))
        self.assertEqual((), sales_in_turn(forest, (0, 0, 0), (5, 5), (3, 3, 3)))
        self.assertEqual((0,) * 400, sales_in_turn(FOREST, (400, 400, 400), (0, 400, 400), (3, 2, 1)))


class WrongNumbersTest(unittest.TestCase):
    def test_prices(self):
        wrong = odd_values() + ((5, 3), (5, 3, 9, 1), [5, 3, 9], (5, 3, -1), (True, 3, 9), (5, None, 9), (5, 3, "9"),
                                (5, 3, 9.0), (Unfriendly(), 3, 9))
        for prices in wrong:
            self.assertEqual(("InvalidNumber", "prices"),
                             error_of(purchases_in_turn, FOREST, (0, 0, 1), (2, 0, 2), prices))
            self.assertEqual(("InvalidNumber", "prices"), error_of(sales_in_turn, FOREST, (0, 0, 1), (2, 0, 2), prices))
            self.assertEqual(("InvalidNumber", "prices"), error_of(price_of_all, FOREST, (0, 0, 1), (2, 0, 2), prices))
            for money in (5, None, -1, Unfriendly()):
                self.assertEqual(("InvalidNumber", "prices"),
                                 error_of(purchase_for, FOREST, (0, 0, 1), (2, 0, 2), prices, money))
        homeless = court(Table(("a",), (("p", ()),)))
        self.assertEqual(("InvalidNumber", "prices"), error_of(price_of_all, homeless, (0,), (1,), (-1,)))

    def test_money(self):
        for money in odd_values() + (-1, (5,)):
            if isinstance(money, int) and not isinstance(money, bool) and money >= 0:
                continue
            self.assertEqual(("InvalidNumber", "money"),
                             error_of(purchase_for, FOREST, (0, 0, 1), (2, 0, 2), (5, 3, 9), money))


if __name__ == "__main__":
    unittest.main()
