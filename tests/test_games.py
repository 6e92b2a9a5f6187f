"""[19] Orders, [20] the game, and what [27] says of the attack of a crossing."""

import itertools
import random
import unittest

from helpers import (SINGLES, Bag, Unfriendly, all_tables, error_of, most, odd_values, random_tables,
                     regrets_by_trying, served)
from neverregret.court import Crossing, court, crossings_of, is_forest
from neverregret.crossing import crossing_attack, crossing_bounds, crossing_day
from neverregret.games import (all_orders, attack_row, is_attack, is_never_plan, is_orders, never_plan,
                               served_by_orders, served_by_plan, some_rule)
from neverregret.plain import is_serving
from neverregret.tables import Table, accepted

TABLE = Table(("l", "s"), (("any", (0, 1)), ("large", (0,)), ("small", (1,))))
ATTACK = (0, ((1, ()), (2, ())))
PLAN = ((0, (None, None)), (1, (None, None)))
ONE_EACH = Table(("a", "b"), (("x", (0,)), ("y", (1,))))


def table_of(*lots):
    """Return a table of eight kinds whose types accept these lots."""
    return Table(tuple("abcdefgh"), tuple(zip("klmnopqrstuv", lots)))


def due_by_words(table, stock, bounds, counts):
    """Return the types whose item is not `None` when so many requests were served."""
    row = [request for request, count in enumerate(counts) for _ in range(count)]
    return [request for request in range(len(counts)) if counts[request] != bounds[request]
            and most(table, stock, row + [request]) == len(row) + 1]


def behind(counts, left, request, kind):
    """Return what is served and what is left behind a request that gets a kind."""
    return (tuple(count + (at == request) for at, count in enumerate(counts)),
            tuple(units - (at == kind) for at, units in enumerate(left)))


def begin(table, stock):
    """Return what is served and what is left at the beginning."""
    return (0,) * len(table.types), stock


def is_plan_by_words(table, stock, bounds, counts, left, value):
    """Return whether a nested tuple is a plan, word by word."""
    due = due_by_words(table, stock, bounds, counts)
    if not isinstance(value, tuple) or len(value) != len(counts):
        return False
    for request, item in enumerate(value):
        if (request in due) != (item is not None):
            return False
        if item is not None:
            if item[0] not in accepted(table, request) or left[item[0]] == 0:
                return False
            if not is_plan_by_words(table, stock, bounds, *behind(counts, left, request, item[0]), item[1]):
                return False
    return True


def is_attack_by_words(table, stock, bounds, counts, left, value):
    """Return whether a nested tuple is an attack, word by word."""
    request, attacks = value
    if request not in due_by_words(table, stock, bounds, counts):
        return False
    kinds = [kind for kind in accepted(table, request) if left[kind]]
    return len(kinds) == len(attacks) and all(
        is_attack_by_words(table, stock, bounds, *behind(counts, left, request, kind), attack)
        for kind, attack in zip(kinds, attacks))


def has_rule(table, stock, bounds, counts, left):
    """Return whether a rule can go on without regrets, by trying all that it can do."""
    for request in due_by_words(table, stock, bounds, counts):
        kinds = [kind for kind in accepted(table, request) if left[kind]]
        if not any(has_rule(table, stock, bounds, *behind(counts, left, request, kind)) for kind in kinds):
            return False
    return True


def changed_values(value, rng):
    """Return a nested tuple with one place, of any depth, changed."""
    if not isinstance(value, tuple) or not value or rng.random() < 0.2:
        return rng.choice((None, 0, 1, (), (0, ()), (1, (None, None, None)), value))
    at = rng.randrange(len(value))
    return value[:at] + (changed_values(value[at], rng),) + value[at + 1:]


def rows_within(bounds, length):
    """Return all rows within bounds of types with numbers, of this length at most."""
    rows = [row for size in range(length + 1) for row in itertools.product(range(len(bounds)), repeat=size)]
    return [row for row in rows if all(bound is None or row.count(at) <= bound for at, bound in enumerate(bounds))]


def game_cases():
    """Return small tables with a stock and bounds each."""
    rng = random.Random(200)
    cases = []
    for table in random_tables(400, 201, 3, 3):
        stock = tuple(rng.choice((0, 1, 1, 2)) for _ in table.kinds)
        bounds = tuple(rng.choice((None, 0, 1, 2)) for _ in table.types)
        if sum(stock) <= 4:
            cases.append((table, stock, bounds))
    for table in all_tables(2, 3)[::3]:
        cases.append((table, (1, 1), (1, 1, 1)))
        cases.append((table, (1, 1), (None, 1, None)))
    return cases


class OrdersTest(unittest.TestCase):
    def test_right(self):
        for value in (((0, 1), (0,), (1,)), ((1, 0), (0,), (1,))):
            self.assertIs(True, is_orders(TABLE, value))
        self.assertTrue(is_orders(Table(("a",), ()), ()))
        self.assertTrue(is_orders(Table(("a",), (("t", ()),)), ((),)))

    def test_wrong(self):
        for value in odd_values() + (((0, 1), (0,)), ((0, 1), (0,), (1,), ()), ((0,), (0,), (1,)), ([0, 1], (0,), (1,)),
                                     [(0, 1), (0,), (1,)], ((0, 0, 1), (0,), (1,)), ((0, 1), (1,), (1,)),
                                     ((0, 1), (0,), (2,)), ((0, 1), (), (1,)), ((0, 1), (-2,), (1,))):
            self.assertIs(False, is_orders(TABLE, value))
        for item in SINGLES:
            self.assertFalse(is_orders(TABLE, (item, (0,), (1,))))
            self.assertFalse(is_orders(TABLE, ((0, item), (0,), (1,))))
        self.assertFalse(is_orders(TABLE, ((False, True), (0,), (1,))))

    def test_all_by_trying(self):
        for table in random_tables(60, 202, 4, 3):
            lots = [list(itertools.permutations(lot)) for _, lot in table.types]
            expected = tuple(itertools.product(*lots))
            self.assertEqual(tuple(sorted(expected)), all_orders(table))
            self.assertTrue(all(is_orders(table, orders) for orders in all_orders(table)))
        self.assertEqual(((),), all_orders(Table(("a",), ())))
        self.assertEqual((((),),), all_orders(Table(("a",), (("t", ()),))))

    def test_size(self):
        pair, three, four, five = (0, 1), (0, 1, 2), (0, 1, 2, 3), (0, 1, 2, 3, 4)
        self.assertEqual(1920, len(all_orders(table_of(five, *[pair] * 4))))
        self.assertEqual(1728, len(all_orders(table_of(four, (), three, three, pair, (5,)))))
        for lots in ([five, four], [pair] * 11, [(0, 1, 2, 3, 4, 5, 6)], [four, four, four], [tuple(range(8))] * 12):
            self.assertEqual(("Refused", "size"), error_of(all_orders, table_of(*lots)))
        self.assertEqual(1024, len(all_orders(table_of(*[pair] * 10))))

    def test_served(self):
        self.assertEqual((1, 0, None), served_by_orders(TABLE, (1, 1), (0, 1, 2), ((1, 0), (0,), (1,))))
        self.assertEqual((0, None, 1), served_by_orders(TABLE, (1, 1), (0, 1, 2), ((0, 1), (0,), (1,))))
        self.assertEqual((), served_by_orders(TABLE, (1, 1), (), ((0, 1), (0,), (1,))))
        self.assertEqual((0,) * 400, served_by_orders(TABLE, (400, 1), (1,) * 400, ((0, 1), (0,), (1,))))

    def test_served_at_least_half(self):
        rng = random.Random(203)
        for table in random_tables(60, 204, 3, 3):
            if not table.types:
                continue
            stock = tuple(rng.randint(0, 2) for _ in table.kinds)
            row = tuple(rng.randrange(len(table.types)) for _ in range(rng.randint(0, 5)))
            for orders in all_orders(table):
                serving = served_by_orders(table, stock, row, orders)
                self.assertTrue(is_serving(table, stock, row, serving))
                self.assertGreaterEqual(2 * served(serving), most(table, stock, row))
                left = list(stock)
                for request, kind in zip(row, serving):
                    fit = [other for other in orders[request] if left[other]]
                    self.assertEqual(fit[0] if fit else None, kind)
                    if kind is not None:
                        left[kind] -= 1

    def test_all_orders_can_have_regrets(self):
        for orders in all_orders(TABLE):
            rows = rows_within((1, 1, 1), 3)
            self.assertTrue(any(regrets_by_trying(TABLE, (1, 1), row, served_by_orders(TABLE, (1, 1), row, orders))
                                for row in rows))


class GameTest(unittest.TestCase):
    def test_examples(self):
        self.assertEqual(("attack", ATTACK), never_plan(TABLE, (1, 1), (1, 1, 1)))
        self.assertEqual((0, 2), attack_row(TABLE, (1, 1), ATTACK, ((1, 0), (0,), (1,))))
        self.assertEqual((0, 1), attack_row(TABLE, (1, 1), ATTACK, ((0, 1), (0,), (1,))))
        self.assertIs(False, some_rule(TABLE, (1, 1), (1, 1, 1)))
        self.assertIs(True, some_rule(TABLE, (1, 1), (1, 1, 0)))

    def test_edges(self):
        self.assertEqual(("plan", ()), never_plan(Table(("a",), ()), (400,), ()))
        self.assertEqual(("plan", (None, None)), never_plan(ONE_EACH, (0, 0), (None, 4)))
        self.assertEqual(("plan", (None, None)), never_plan(ONE_EACH, (1, 1), (0, 0)))
        self.assertEqual(("plan", (None,)), never_plan(Table(("a",), (("t", ()),)), (1,), (None,)))
        self.assertEqual(("plan", ((0, ((0, (None,)),)),)), never_plan(Table(("a",), (("t", (0,)),)), (2,), (None,)))
        self.assertEqual(("plan", ((0, (None,)),)), never_plan(Table(("a",), (("t", (0,)),)), (2,), (1,)))
        # a kind without takers never goes
        self.assertEqual(("plan", ((0, (None,)),)), never_plan(Table(("a", "b"), (("t", (0,)),)), (1, 2), (None,)))

    def test_size(self):
        eleven = table_of(*[(0, 1)] * 11)
        stock = (1, 1, 1, 0, 0, 0, 0, 0)
        self.assertEqual("plan", never_plan(eleven, stock, (None,) * 11)[0])
        twelve = table_of(*[(0, 1)] * 12)
        one = table_of((0, 1))
        ten = (5, 4, 1, 0, 0, 0, 0, 0)
        self.assertEqual("plan", never_plan(one, ten, (None,))[0])
        for table, units, bounds in ((twelve, stock, (0,) * 12), (one, (5, 6, 0, 0, 0, 0, 0, 0), (None,)),
                                     (one, (0,) * 7 + (11,), (0,))):
            for function in (never_plan, some_rule):
                self.assertEqual(("Refused", "size"), error_of(function, table, units, bounds))
            for function in (is_never_plan, is_attack):
                for value in (None, (), Unfriendly()):
                    self.assertEqual(("Refused", "size"), error_of(function, table, units, bounds, value))
        self.assertTrue(some_rule(twelve, (1, 1) + (0,) * 6, (None,) * 12))
        self.assertTrue(some_rule(table_of(*[()] * 12), (0,) * 8, (None,) * 12))
        self.assertTrue(some_rule(Table(("a",), ()), (400,), ()))

    def test_exactly_one_of_both(self):
        seen = {"plan": 0, "attack": 0}
        for table, stock, bounds in game_cases():
            word, told = never_plan(table, stock, bounds)
            seen[word] += 1
            self.assertEqual(has_rule(table, stock, bounds, *begin(table, stock)), word == "plan")
            self.assertEqual(word == "plan", some_rule(table, stock, bounds))
            self.assertEqual(word == "plan", is_never_plan(table, stock, bounds, told))
            self.assertEqual(word == "attack", is_attack(table, stock, bounds, told))
            if word == "plan":
                self.check_plan(table, stock, bounds, told)
            else:
                self.check_attack(table, stock, told)
        self.assertGreater(min(seen.values()), 10)

    def check_plan(self, table, stock, bounds, plan):
        self.assertTrue(is_plan_by_words(table, stock, bounds, *begin(table, stock), plan))
        for row in rows_within(bounds, 4):
            serving = served_by_plan(table, stock, row, plan)
            self.assertTrue(is_serving(table, stock, row, serving))
            self.assertEqual((), regrets_by_trying(table, stock, row, serving))

    def check_attack(self, table, stock, attack):
        for orders in all_orders(table):
            row = attack_row(table, stock, attack, orders)
            serving = served_by_orders(table, stock, row, orders)
            self.assertEqual((len(row) - 1,), regrets_by_trying(table, stock, row, serving))
            self.assertEqual(len(row) - 1, served(serving))

    def test_judges_by_words(self):
        rng = random.Random(205)
        for table, stock, bounds in game_cases():
            word, told = never_plan(table, stock, bounds)
            for _ in range(12):
                value = changed_values(told, rng)
                for judge, words in ((is_never_plan, is_plan_by_words), (is_attack, is_attack_by_words)):
                    try:
                        expected = words(table, stock, bounds, *begin(table, stock), value)
                    except (TypeError, ValueError, IndexError):
                        expected = False
                    self.assertEqual(expected, judge(table, stock, bounds, value), value)

    def test_all_plans(self):
        # all that can be told of one request of each type
        items = (None,) + tuple((kind, (None, None, None)) for kind in (0, 1, 2))
        right = [value for value in itertools.product(items, repeat=3)
                 if is_never_plan(TABLE, (1, 0), (1, 1, 1), value)]
        self.assertEqual([((0, (None,) * 3), (0, (None,) * 3), None)], right)

    def test_other_values(self):
        for value in odd_values() + (PLAN + (None,), PLAN[:1], list(PLAN), ([0, (None, None)], PLAN[1])):
            self.assertFalse(is_never_plan(ONE_EACH, (1, 1), (1, 1), value))
            self.assertFalse(is_attack(TABLE, (1, 1), (1, 1, 1), value))
        right = ((0, (None, (1, (None, None)))), (1, ((0, (None, None)), None)))
        self.assertTrue(is_never_plan(ONE_EACH, (1, 1), (1, 1), right))
        for item in SINGLES + ((), (0,), (0, ()), (False, right[0][1]), (0, right[0][1], 0), (1, right[0][1])):
            self.assertFalse(is_never_plan(ONE_EACH, (1, 1), (1, 1), (item, right[1])))
            self.assertFalse(is_never_plan(ONE_EACH, (1, 1), (1, 1), ((0, item), right[1])))
            if not (isinstance(item, int) and item == 0):
                self.assertFalse(is_never_plan(ONE_EACH, (1, 1), (1, 1), ((item, right[0][1]), right[1])))
            self.assertFalse(is_attack(TABLE, (1, 1), (1, 1, 1), (0, item)))
            self.assertFalse(is_attack(TABLE, (1, 1), (1, 1, 1), (0, ((1, ()), item))))
            self.assertFalse(is_attack(TABLE, (1, 1), (1, 1, 1), (item, ATTACK[1])))
        for value in ((False, ATTACK[1]), (3, ATTACK[1]), (1, ATTACK[1]), ATTACK + (0,), list(ATTACK),
                      (0, list(ATTACK[1])), (0, ATTACK[1][::-1]), (0, ATTACK[1][:1]), (0, ATTACK[1] * 2), Bag()):
            self.assertFalse(is_attack(TABLE, (1, 1), (1, 1, 1), value))
        self.assertTrue(is_attack(TABLE, (1, 1), (1, 1, 1), ATTACK))
        self.assertFalse(is_attack(TABLE, (1, 1), (1, 0, 1), ATTACK))
        self.assertFalse(is_attack(TABLE, (1, 2), (1, 1, 1), ATTACK))

    def test_served_by_plan(self):
        plan = never_plan(ONE_EACH, (1, 1), (2, 2))[1]
        self.assertEqual((1, None, 0, None), served_by_plan(ONE_EACH, (1, 1), (1, 1, 0, 0), plan))
        self.assertEqual((), served_by_plan(ONE_EACH, (1, 1), (), plan))

    def test_plans_of_forests(self):
        # with one unit of each of two kinds and one request of each type, a plan is there if no kinds cross
        for table in all_tables(2, 3) + all_tables(3, 2):
            pairs = itertools.combinations(range(len(table.kinds)), 2)
            stocks = [tuple(int(kind in pair) for kind in range(len(table.kinds))) for pair in pairs]
            bounds = (1,) * len(table.types)
            self.assertEqual(is_forest(table), all(some_rule(table, stock, bounds) for stock in stocks))


class CrossingAttackTest(unittest.TestCase):
    def test_attacks_of_crossings(self):
        many = 0
        for table in all_tables(2, 3) + all_tables(3, 3)[::7]:
            for crossing in crossings_of(table):
                k, l = crossing.kinds
                t, u, v = crossing.types
                for turned in (crossing, Crossing((l, k), (t, v, u))):
                    stock, rows = crossing_day(table, turned)
                    bounds = crossing_bounds(table, turned)
                    attack = crossing_attack(turned)
                    self.assertTrue(is_attack(table, stock, bounds, attack))
                    self.assertFalse(some_rule(table, stock, bounds))
                    for orders in itertools.islice(all_orders(table), 20):
                        self.assertIn(attack_row(table, stock, attack, orders), rows)
                    many += 1
        self.assertGreater(many, 20)

    def test_greater_bounds_keep_the_attack(self):
        crossing = court(TABLE)
        for bounds in ((None, None, None), (3, 1, 2), (1, 1, 400)):
            self.assertTrue(is_attack(TABLE, (1, 1), bounds, crossing_attack(crossing)))
        for bounds in ((0, 1, 1), (1, 0, 1), (1, 1, 0)):
            self.assertFalse(is_attack(TABLE, (1, 1), bounds, crossing_attack(crossing)))
            self.assertTrue(some_rule(TABLE, (1, 1), bounds))


if __name__ == "__main__":
    unittest.main()
