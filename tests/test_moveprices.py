"""[70] Prices of units, and papers that show that no remake costs less."""

import itertools
import random
import unittest

from helpers import SINGLES, Bag, Unfriendly, odd_values, random_table
from neverregret.covers import ServingPaper
from neverregret.games import served_by_orders
from neverregret.moveprices import RemakePaper, is_remake_paper, prices_worth, remake_paper, unit_prices
from neverregret.moves import cheapest_remake, is_remake, remake_cost
from neverregret.plain import left_stock
from neverregret.servings import grown_serving
from neverregret.tables import Table, accepted, takers
from remakes import all_remakes, cases, dear_cases

TABLE = Table(("l", "s"), (("any", (0, 1)), ("large", (0,)), ("small", (1,))))
CASE = (TABLE, (1, 1), (0, 1), (0, None))
CHAIN = Table(("a", "b", "c"), (("p", (0, 1)), ("q", (1, 2)), ("r", (0,))))


def worth_by_words(table, stock, row, serving, places, costs, prices):
    """Return the worth of prices, word by word."""
    worth = -sum(price * units for price, units in zip(prices, stock))
    for place, request in enumerate(row):
        if serving[place] is not None and costs[place] is None:
            worth += prices[serving[place]]
        elif serving[place] is not None or place in places:
            sums = [prices[kind] + (costs[place] if serving[place] not in (None, kind) else 0)
                    for kind in table.types[request][1]]
            if not sums:
                return None
            worth += min(sums)
    return worth


class PricesTest(unittest.TestCase):
    def test_examples(self):
        self.assertEqual((3, 0), unit_prices(*CASE, (3, 0)))

    def test_unit_prices(self):
        self.assertEqual((None, 0), unit_prices(*CASE, (None, 0)))
        self.assertEqual((0, 0), unit_prices(*CASE, (0, None)))
        self.assertEqual((0, 0), unit_prices(TABLE, (2, 1), (0, 1), (0, None), (3, 0)))
        self.assertEqual((None, None), unit_prices(TABLE, (1, 1), (0, 2), (0, 1), (3, 3)))
        self.assertEqual((None, None), unit_prices(TABLE, (0, 0), (), (), ()))
        self.assertEqual((0, None), unit_prices(TABLE, (400, 0), (), (), ()))
        # one after another, the cheapest of each
        self.assertEqual((7, 5, 0), unit_prices(CHAIN, (1, 1, 1), (0, 1), (0, 1), (2, 5)))
        self.assertEqual((7, 5, 0), unit_prices(CHAIN, (2, 2, 1), (0, 1, 0, 1), (0, 1, 0, 1), (9, 5, 2, 8)))
        self.assertEqual((None, 5, 0), unit_prices(CHAIN, (1, 1, 1), (0, 1), (0, 1), (None, 5)))
        self.assertEqual((10 ** 40 + 1, 1, 0), unit_prices(CHAIN, (1, 1, 1), (0, 1), (0, 1), (10 ** 40, 1)))

    def test_unit_prices_by_trying(self):
        dear = 0
        for table, stock, row, serving, _, costs in cases(300, 700):
            remakes = all_remakes(table, stock, row, serving, (), costs)
            expected = []
            for kind in range(len(table.kinds)):
                expected.append(min((cost for cost, remake in remakes if left_stock(stock, remake)[kind] > 0),
                                    default=None))
            self.assertEqual(tuple(expected), unit_prices(table, stock, row, serving, costs))
            dear += any(expected)
            # a place costs the least unit price of the kinds that its type accepts
            for place, kind in enumerate(serving):
                if kind is None:
                    prices = [expected[other] for other in accepted(table, row[place]) if expected[other] is not None]
                    least = min([cost for cost, _ in all_remakes(table, stock, row, serving, (place,), costs)],
                                default=None)
                    self.assertEqual(min(prices, default=None), least)
        self.assertGreater(dear, 20)

    def test_worths(self):
        self.assertEqual(3, prices_worth(*CASE, (1,), (3, 0), (3, 0)))
        self.assertEqual(0, prices_worth(*CASE, (1,), (3, 0), (0, 0)))
        self.assertEqual(3, prices_worth(*CASE, (1,), (3, 0), (5, 2)))
        self.assertEqual(3, prices_worth(*CASE, (1,), (None, 0), (3, 0)))
        self.assertEqual(90, prices_worth(*CASE, (1,), (None, 0), (100, 10)))
        self.assertEqual(0, prices_worth(TABLE, (1, 1), (), (), (), (), (0, 0)))
        self.assertEqual(-9, prices_worth(TABLE, (1, 2), (0,), (None,), (), (5,), (3, 3)))
        # a place that accepts no kind
        empty = Table(("a",), (("p", ()), ("q", (0,))))
        self.assertIsNone(prices_worth(empty, (1,), (0, 1), (None, None), (0, 1), (0, 0), (0,)))
        self.assertEqual(0, prices_worth(empty, (1,), (0, 1), (None, None), (1,), (0, 0), (7,)))

    def test_no_remake_costs_less(self):
        rng = random.Random(701)
        tight = 0
        for case in cases(200, 702) + dear_cases(80, 709):
            table = case[0]
            remakes = all_remakes(*case)
            for prices in [tuple(rng.choice((0, 0, 1, 2, 5, 9)) for _ in table.kinds) for _ in range(12)]:
                worth = worth_by_words(*case, prices)
                self.assertEqual(worth, prices_worth(*case, prices))
                if remakes:
                    self.assertLessEqual(worth, min(remakes)[0])
                    tight += worth == min(remakes)[0]
        self.assertGreater(tight, 50)


class PaperTest(unittest.TestCase):
    def test_equality(self):
        paper = RemakePaper(remake=(0,), prices=(1,))
        self.assertEqual(((0,), (1,)), (paper.remake, paper.prices))
        self.assertTrue(paper == RemakePaper((0,), (1,)))
        self.assertTrue(RemakePaper(None, "x") == RemakePaper(None, "x"))
        for other in (RemakePaper((0,), (2,)), RemakePaper((1,), (1,)), None, ((0,), (1,)),
                      Bag(remake=(0,), prices=(1,)), ServingPaper((0,), (1,))):
            self.assertTrue(paper != other)
            self.assertFalse(paper == other)

    def test_by_hand(self):
        paper = remake_paper(*CASE, (1,), (3, 0))
        self.assertEqual((1, 0), paper.remake)
        self.assertIs(True, is_remake_paper(*CASE, (1,), (3, 0), paper))
        # some other prices show it, too
        for prices, expected in (((3, 0), True), ((5, 2), True), ((4, 0), True), ((2, 0), False), ((3, 1), False)):
            self.assertIs(expected, is_remake_paper(*CASE, (1,), (3, 0), RemakePaper((1, 0), prices)))
        self.assertIsNone(remake_paper(*CASE, (1,), (None, 0)))

    def test_by_trying(self):
        there = lacking = dear = 0
        for case in cases(300, 703) + dear_cases(80, 708):
            remakes = all_remakes(*case)
            paper = remake_paper(*case)
            if not remakes:
                lacking += 1
                self.assertIsNone(paper)
                continue
            there += 1
            least = min(remakes)[0]
            dear += least > 0
            self.assertIs(True, is_remake_paper(*case, paper))
            self.assertIn((least, paper.remake), remakes)
            self.assertEqual(least, worth_by_words(*case, paper.prices))
            self.assertTrue(all(type(price) is int and price >= 0 for price in paper.prices))
            # right papers have remakes of least cost alone, and each of these has one
            for cost, remake in remakes:
                self.assertIs(cost == least, is_remake_paper(*case, RemakePaper(remake, paper.prices)))
        self.assertGreater(min(there, lacking, dear), 40)

    def test_right_by_words(self):
        for case in cases(30, 704) + dear_cases(12, 710):
            table, _, _, serving, _, costs = case
            if len(table.kinds) > 3:
                continue
            remakes = all_remakes(*case)
            for prices in itertools.product(range(4), repeat=len(table.kinds)):
                worth = worth_by_words(*case, prices)
                for cost, remake in remakes:
                    self.assertEqual(cost, remake_cost(serving, costs, remake))
                    self.assertIs(worth == cost, is_remake_paper(*case, RemakePaper(remake, prices)))

    def test_costs_of_0_and_none_and_no_places(self):
        for case in cases(80, 705, (None, 0)):
            paper = remake_paper(*case)
            if paper is not None:
                self.assertTrue(is_remake_paper(*case, paper))
                self.assertEqual(0, prices_worth(*case, paper.prices))
        for table, stock, row, serving, _, costs in cases(80, 706):
            paper = remake_paper(table, stock, row, serving, (), costs)
            self.assertTrue(is_remake_paper(table, stock, row, serving, (), costs, paper))
            self.assertEqual(0, remake_cost(serving, costs, paper.remake))
        paper = remake_paper(TABLE, (1, 1), (), (), (), ())
        self.assertEqual((), paper.remake)
        self.assertTrue(is_remake_paper(TABLE, (1, 1), (), (), (), (), paper))

    def test_prices_of_units_that_cannot_be_left(self):
        # all units are handed out for good: a price of them is needed to be right, and none falls below 0
        case = (TABLE, (1, 1), (0, 1), (1, 0), (), (5, 7))
        paper = remake_paper(*case)
        self.assertTrue(is_remake_paper(*case, paper))
        chain = (CHAIN, (1, 1, 0), (0, 1, 2), (0, 1, None), (), (2, 5, 0))
        self.assertTrue(is_remake_paper(*chain, remake_paper(*chain)))
        back = (CHAIN, (1, 1, 1), (0, 1, 2), (0, 1, None), (2,), (2, 5, 9))
        paper = remake_paper(*back)
        self.assertEqual((1, 2, 0), paper.remake)
        self.assertTrue(is_remake_paper(*back, paper))

    def test_other_values(self):
        case = CASE + ((1,), (3, 0))
        right = remake_paper(*case)
        for value in odd_values() + (RemakePaper, Bag(**vars(right)), (right.remake, right.prices), right.remake,
                                     ServingPaper(right.remake, right.prices)):
            self.assertIs(False, is_remake_paper(*case, value))
        for value in odd_values() + ([1, 0], (1,), (1, 0, 0), (0, None), (True, 0), (1, False), (0, 0), (0, 1)):
            self.assertFalse(is_remake_paper(*case, RemakePaper(value, right.prices)))
        for value in odd_values() + ([3, 0], (3,), (3, 0, 0), (3, False), (3.0, 0), (2, 0), (2, -1), (0, 0), (3, 1),
                                     (3, None)):
            self.assertFalse(is_remake_paper(*case, RemakePaper(right.remake, value)))
        for item in SINGLES + (Unfriendly(),):
            self.assertFalse(is_remake_paper(*case, RemakePaper(right.remake, (3, item))))
            self.assertFalse(is_remake_paper(*case, RemakePaper((1, item), right.prices)))
        # without a remake there is no right paper
        for remake in ((0, None), (1, 0), (0, 0), (0, 1)):
            for prices in itertools.product(range(4), repeat=2):
                self.assertFalse(is_remake_paper(*CASE, (1,), (None, 0), RemakePaper(remake, prices)))
        # no place accepts a kind
        none = Table(("a",), (("p", ()),))
        self.assertIsNone(remake_paper(none, (5,), (0,), (None,), (0,), (0,)))
        self.assertFalse(is_remake_paper(none, (5,), (0,), (None,), (0,), (0,), RemakePaper((None,), (0,))))

    def test_large(self):
        rng = random.Random(707)
        many = 0
        for _ in range(14):
            table = random_table(rng, 8, 12)
            if not table.types:
                continue
            stock = tuple(rng.choice((0, 20, 50, 100)) for _ in table.kinds)
            row = tuple(rng.randrange(len(table.types)) for _ in range(400))
            # the kinds with most takers go first, so that later ones have to make room
            orders = [sorted(lot, key=lambda kind: -len(takers(table, kind))) for _, lot in table.types]
            serving = served_by_orders(table, stock, row[:250], orders) + (None,) * 150
            full = grown_serving(table, stock, row, serving)
            places = tuple(place for place in range(250, 400) if full[place] is not None)
            costs = tuple(rng.choice((0, 1, 3, 8)) for _ in row)
            case = (table, stock, row, serving, places, costs)
            paper = remake_paper(*case)
            self.assertTrue(is_remake(*case, paper.remake))
            self.assertTrue(is_remake_paper(*case, paper))
            self.assertEqual(remake_cost(serving, costs, cheapest_remake(*case)),
                             remake_cost(serving, costs, paper.remake))
            many += remake_cost(serving, costs, paper.remake) > 0
        self.assertGreater(many, 2)


if __name__ == "__main__":
    unittest.main()
