"""[80] Cheapest repairs, and [81] papers that show that none costs less."""

import random
import unittest

from helpers import SINGLES, Bag, Unfriendly, all_tables, error_of, odd_values, random_table, random_tables, subsets
from neverregret.court import crossings_of
from neverregret.reader import read_table
from neverregret.repairs import RepairPaper, cheapest_repair, is_repair_paper, repair_paper
from neverregret.striking import is_repair, items_for, strike_cost, struck_table
from neverregret.tables import Table

TABLE = read_table("both: a b\nleft: a\nright: b")
WAYS = ("kinds", "types", "accepted")
SIXTEEN = Table(tuple("abcde"), (("p", (0, 1, 2, 3)), ("q", (0, 2, 4)), ("r", (1, 3, 4)), ("s", (0, 1, 4)),
                                 ("t", (2, 3, 4))))
SEVENTEEN = Table(tuple("abcde"), SIXTEEN.types + (("u", (0,)),))


def are_costs(value):
    """Return whether a value is a tuple of numbers."""
    return isinstance(value, tuple) and all(type(item) is int and item >= 0 for item in value)


def least_by_trying(table, way, costs):
    """Return the least cost of all lots of items that are repairs."""
    items = items_for(table, way)
    return min(sum(costs[items.index(item)] for item in lot) for lot in subsets(items) if is_repair(table, way, lot))


def crossing_items(way, kinds, types):
    """Return the ascending items of a crossing, told by its kinds and types."""
    (one, other), (both, first, second) = kinds, types
    parts = {"kinds": {one, other}, "types": {both, first, second},
             "accepted": {(both, one), (both, other), (first, one), (second, other)}}
    return sorted(parts[way])


def is_tree_by_words(table, way, costs, cost, struck, kept, tree):
    """Return whether a tuple is a right tree, word by word; crossings may have the greater kind first."""
    if tree == ("dear",):
        return strike_cost(table, way, costs, tuple(sorted(struck))) >= cost
    word, (kinds, types), trees = tree
    there = [(crossing.kinds, crossing.types)
             for crossing in crossings_of(struck_table(table, way, tuple(sorted(struck))))]
    turned = (kinds[::-1], (types[0], types[2], types[1]))
    if word != "cross" or ((kinds, types) not in there and turned not in there):
        return False
    items = crossing_items(way, kinds, types)
    free = [item for item in items if item not in kept]
    if len(free) != len(trees):
        return False
    for item, part in zip(free, trees):
        before = {other for other in items if other < item}
        if not is_tree_by_words(table, way, costs, cost, struck | {item}, kept | before, part):
            return False
    return True


def sample(many, seed, kinds=4, types=4):
    """Return small tables, those with crossing kinds ahead."""
    tables = random_tables(3 * many, seed, kinds, types) + all_tables(2, 3)
    tables = [table for table in tables if len(items_for(table, "accepted")) <= 9]
    return sorted(tables, key=lambda table: not crossings_of(table))[:many]


class CheapestTest(unittest.TestCase):
    def test_examples(self):
        self.assertEqual((2, (1,)), cheapest_repair(TABLE, "kinds", (3, 2)))
        self.assertEqual((1, (1,)), cheapest_repair(TABLE, "types", (9, 1, 4)))
        self.assertEqual((1, ((2, 1),)), cheapest_repair(TABLE, "accepted", (5, 3, 2, 1)))

    def test_by_trying(self):
        rng = random.Random(800)
        dear = free = 0
        for table in sample(80, 801):
            for way in WAYS:
                items = items_for(table, way)
                for costs in ((1,) * len(items), tuple(rng.choice((0, 1, 2, 7)) for _ in items),
                              tuple(2 ** rng.randrange(6) for _ in items)):
                    cost, lot = cheapest_repair(table, way, costs)
                    self.assertEqual(least_by_trying(table, way, costs), cost)
                    self.assertIs(int, type(cost))
                    self.assertTrue(is_repair(table, way, lot))
                    self.assertEqual(cost, strike_cost(table, way, costs, lot))
                    dear += cost > 1
                    free += cost == 0
        self.assertGreater(min(dear, free), 20)

    def test_costs_of_0(self):
        for way in WAYS:
            costs = (0,) * len(items_for(TABLE, way))
            cost, lot = cheapest_repair(TABLE, way, costs)
            self.assertEqual(0, cost)
            self.assertTrue(is_repair(TABLE, way, lot) and lot)
        self.assertEqual((0, (1,)), cheapest_repair(TABLE, "kinds", (1, 0)))

    def test_nothing_to_repair(self):
        for table in (Table(("a",), ()), Table(("a", "b"), (("p", ()), ("q", (0,)))), read_table("p: a b\nq: a")):
            for way in WAYS:
                for cost in (0, 5):
                    found = cheapest_repair(table, way, (cost,) * len(items_for(table, way)))
                    self.assertEqual(0, found[0])
                    self.assertTrue(is_repair(table, way, found[1]))
                self.assertEqual((0, ()), cheapest_repair(table, way, (5,) * len(items_for(table, way))))

    def test_great_costs(self):
        self.assertEqual((10 ** 40, (1,)), cheapest_repair(TABLE, "kinds", (10 ** 40 + 1, 10 ** 40)))
        self.assertEqual((3, (0, 1, 2)), cheapest_repair(Table(("a", "b", "c", "d"), tuple(
            (name, (at, 3)) for at, name in enumerate("pqr")) + (("s", (0,)), ("t", (1,)), ("u", (2,)))),
            "kinds", (1, 1, 1, 100)))

    def test_striking_makes_others_cross(self):
        # each single acceptance struck leaves some crossing, or makes one
        table = read_table("all: a b c\nmore: a b c\nleft: a\nright: b")
        for costs in ((1,) * 8, (1, 1, 1, 1, 1, 1, 50, 50), (3, 1, 4, 1, 5, 9, 2, 6)):
            cost, lot = cheapest_repair(table, "accepted", costs)
            self.assertEqual(least_by_trying(table, "accepted", costs), cost)
            self.assertEqual(cost, strike_cost(table, "accepted", costs, lot))

    def test_size(self):
        self.assertEqual((16, 17), (len(items_for(SIXTEEN, "accepted")), len(items_for(SEVENTEEN, "accepted"))))
        cost, lot = cheapest_repair(SIXTEEN, "accepted", (1,) * 16)
        self.assertTrue(is_repair(SIXTEEN, "accepted", lot))
        self.assertEqual(cost, len(lot))
        self.assertTrue(is_repair_paper(SIXTEEN, "accepted", (1,) * 16, repair_paper(SIXTEEN, "accepted", (1,) * 16)))
        for values in ((1,) * 17, (0,) * 17):
            for function in (cheapest_repair, repair_paper):
                self.assertEqual(("Refused", "size"), error_of(function, SEVENTEEN, "accepted", values))
            self.assertEqual(("Refused", "size"), error_of(is_repair_paper, SEVENTEEN, "accepted", values, None))
        # other ways have no such limit
        for way in ("kinds", "types"):
            costs = (1,) * len(items_for(SEVENTEEN, way))
            self.assertTrue(is_repair_paper(SEVENTEEN, way, costs, repair_paper(SEVENTEEN, way, costs)))
        # seventeen acceptances without crossings are too many all the same
        seventeen = Table(("a", "b"), tuple((name, (0, 1) if at < 5 else (0,)) for at, name in enumerate("klmnopqrstuv")))
        self.assertEqual(17, len(items_for(seventeen, "accepted")))
        self.assertEqual(("Refused", "size"), error_of(cheapest_repair, seventeen, "accepted", (1,) * 17))
        self.assertEqual((0, ()), cheapest_repair(seventeen, "kinds", (1, 1)))

    def test_large(self):
        rng = random.Random(802)
        for _ in range(6):
            table = random_table(rng, 8, 12)
            for way in ("kinds", "types"):
                costs = tuple(rng.choice((1, 2, 3)) for _ in items_for(table, way))
                cost, lot = cheapest_repair(table, way, costs)
                self.assertTrue(is_repair(table, way, lot))
                paper = repair_paper(table, way, costs)
                self.assertEqual(cost, paper.cost)
                self.assertTrue(is_repair_paper(table, way, costs, paper))

    def test_errors_in_their_sequence(self):
        for way in odd_values() + ("kind", "", ["kinds"]):
            for costs in ((1, 1), None, Unfriendly()):
                self.assertEqual(("Refused", "way"), error_of(cheapest_repair, TABLE, way, costs))
                self.assertEqual(("Refused", "way"), error_of(repair_paper, TABLE, way, costs))
                self.assertEqual(("Refused", "way"), error_of(is_repair_paper, TABLE, way, costs, None))
        wrong = tuple(value for value in odd_values() if not are_costs(value)) + ([1, 1], (1,), (1, 1, 1, 1, 1), (1, -1), (True, 1), (1.0, 1))
        for costs in wrong:
            for table, way in ((TABLE, "kinds"), (TABLE, "types"), (TABLE, "accepted"), (SEVENTEEN, "accepted")):
                self.assertEqual(("InvalidNumber", "costs"), error_of(cheapest_repair, table, way, costs))
                self.assertEqual(("InvalidNumber", "costs"), error_of(repair_paper, table, way, costs))
                self.assertEqual(("InvalidNumber", "costs"), error_of(is_repair_paper, table, way, costs, None))
        for item in SINGLES:
            if not are_costs((item,)):
                self.assertEqual(("InvalidNumber", "costs"), error_of(cheapest_repair, TABLE, "kinds", (0, item)))
        for length in (16, 18):
            self.assertEqual(("InvalidNumber", "costs"), error_of(cheapest_repair, SEVENTEEN, "accepted", (1,) * length))


class PaperTest(unittest.TestCase):
    def test_class(self):
        paper = RepairPaper(cost=1, lot="x", tree=None)
        self.assertEqual((1, "x", None), (paper.cost, paper.lot, paper.tree))

    def test_by_hand(self):
        dear = ("dear",)
        tree = ("cross", ((0, 1), (0, 1, 2)), (dear, dear))
        for cost, lot, part, expected in (
                (2, (1,), tree, True), (3, (0,), tree, False), (2, (1,), dear, False),
                (2, (1,), ("cross", ((1, 0), (0, 2, 1)), (dear, dear)), True),
                (2, (1,), ("cross", ((0, 1), (0, 2, 1)), (dear, dear)), False),
                (2, (1,), ("cross", ((0, 1), (0, 1, 2)), (dear,)), False),
                (2, (1,), ("cross", ((0, 1), (0, 1, 2)), (dear, dear, dear)), False),
                (2, (1,), ("cross", ((0, 1), (0, 1, 2)), (dear, tree)), False),
                (2, (0, 1), tree, False), (5, (0, 1), tree, False), (1, (1,), dear, False), (2, (), tree, False)):
            self.assertIs(expected, is_repair_paper(TABLE, "kinds", (3, 2), RepairPaper(cost, lot, part)))
        self.assertIs(True, is_repair_paper(TABLE, "kinds", (0, 2), RepairPaper(0, (0,), dear)))
        # a crossing of which all is kept closes the way: whoever strikes its items was looked at before
        table = read_table("both: a b c\nleft: a\nright: b\nthird: c")
        crossing = ("cross", ((0, 1), (0, 1, 2)), (dear, dear))
        paper = RepairPaper(2, (0, 1), ("cross", ((0, 1), (0, 1, 2)), (
            ("cross", ((1, 2), (0, 2, 3)), (dear, dear)), ("cross", ((0, 2), (0, 1, 3)), (dear,)))))
        self.assertIs(True, is_repair_paper(table, "kinds", (1, 1, 1), paper))
        self.assertIs(False, is_repair_paper(table, "kinds", (1, 1, 1), RepairPaper(2, (0, 1), crossing)))

    def test_trees_stand_by_ascending_items(self):
        """The first tree is that of the least item, whichever kind of a crossing stands first."""
        table = read_table("both: a b c\nleft: a\nright: b\nthird: c")
        dear = ("dear",)
        first = ("cross", ((1, 2), (0, 2, 3)), (dear, dear))
        second = ("cross", ((0, 2), (0, 1, 3)), (dear,))
        # who strikes the second kind keeps the first one, so that one tree less stands there
        for crossing in (((0, 1), (0, 1, 2)), ((1, 0), (0, 2, 1))):
            for trees, expected in (((first, second), True), ((second, first), False), ((first, first), False),
                                    ((second, second), False)):
                paper = RepairPaper(2, (0, 1), ("cross", crossing, trees))
                self.assertIs(expected, is_repair_paper(table, "kinds", (1, 1, 1), paper))

    def test_right_papers(self):
        rng = random.Random(810)
        deep = 0
        wide = [table for table in random_tables(40, 816, 6, 7) if len(crossings_of(table)) > 5][:12]
        for table, way in [(table, way) for table in sample(80, 811) for way in WAYS] + [
                (table, way) for table in wide for way in ("kinds", "types")]:
            items = items_for(table, way)
            for costs in ((1,) * len(items), tuple(rng.choice((0, 1, 2, 7)) for _ in items)):
                paper = repair_paper(table, way, costs)
                self.assertIsInstance(paper, RepairPaper)
                self.assertIs(True, is_repair_paper(table, way, costs, paper))
                self.assertEqual(least_by_trying(table, way, costs), paper.cost)
                self.assertTrue(is_tree_by_words(table, way, costs, paper.cost, set(), set(), paper.tree))
                deep += paper.cost > 1
        self.assertGreater(deep, 40)

    def test_no_lot_costs_less_than_a_right_paper(self):
        """Give trees for costs that are too high: none of them is right with a lot that costs so much."""
        rng = random.Random(812)
        many = 0
        for table in sample(60, 813):
            for way in WAYS:
                items = items_for(table, way)
                costs = tuple(rng.choice((1, 1, 2, 3)) for _ in items)
                right = repair_paper(table, way, costs)
                for lot in rng.sample(subsets(items), min(12, 2 ** len(items))):
                    cost = strike_cost(table, way, costs, lot)
                    found = is_repair_paper(table, way, costs, RepairPaper(cost, lot, right.tree))
                    self.assertEqual(is_repair(table, way, lot) and cost == right.cost, found)
                    many += is_repair(table, way, lot) and cost > right.cost
                    self.assertFalse(is_repair_paper(table, way, costs, RepairPaper(cost + 1, lot, right.tree)))
        self.assertGreater(many, 50)

    def test_wrong_trees_by_words(self):
        """Change right trees at some place and compare with what the words say."""
        rng = random.Random(814)
        wrong = 0
        for table in sample(60, 815):
            for way in WAYS:
                costs = tuple(rng.choice((1, 1, 2)) for _ in items_for(table, way))
                right = repair_paper(table, way, costs)
                for _ in range(8):
                    tree = self.changed(rng, table, right.tree)
                    expected = is_tree_by_words(table, way, costs, right.cost, set(), set(), tree)
                    self.assertIs(expected, is_repair_paper(table, way, costs, RepairPaper(right.cost, right.lot, tree)))
                    wrong += not expected
        self.assertGreater(wrong, 100)

    def changed(self, rng, table, tree):
        """Return a tree with some change: a leaf put or taken, another crossing, or trees exchanged."""
        if tree == ("dear",) or rng.random() < 0.2:
            crossings = crossings_of(table)
            if not crossings or rng.random() < 0.3:
                return ("dear",)
            crossing = rng.choice(crossings)
            return "cross", (crossing.kinds, crossing.types), (("dear",),) * rng.randint(0, 4)
        word, pair, trees = tree
        if rng.random() < 0.3 and trees:
            return word, pair, trees[:-1]
        if rng.random() < 0.2:
            return word, pair, trees[::-1]
        at = rng.randrange(len(trees)) if trees else 0
        return word, pair, trees[:at] + tuple(self.changed(rng, table, part) for part in trees[at:at + 1]) + trees[at + 1:]

    def test_other_values(self):
        case = (TABLE, "kinds", (3, 2))
        right = repair_paper(*case)
        tree = right.tree
        for value in odd_values() + (RepairPaper, Bag(**vars(right)), (right.cost, right.lot, tree), right.lot):
            self.assertIs(False, is_repair_paper(*case, value))
        for value in odd_values() + (2.0, 3, 1, (2,), "2"):
            self.assertFalse(is_repair_paper(*case, RepairPaper(value, right.lot, tree)))
        one = (TABLE, "kinds", (3, 1))
        self.assertTrue(is_repair_paper(*one, RepairPaper(1, (1,), repair_paper(*one).tree)))
        self.assertFalse(is_repair_paper(*one, RepairPaper(True, (1,), repair_paper(*one).tree)))
        for value in odd_values() + ([1], (True,), (1.0,), (0, 1), (2,), (1, 1)):
            self.assertFalse(is_repair_paper(*case, RepairPaper(right.cost, value, tree)))
        dear = ("dear",)
        crossing = ((0, 1), (0, 1, 2))
        for value in odd_values() + (
                (), ("cross", crossing, (dear, ())), ("cross", crossing, (dear, ("dear", ()))),
                ("cross", crossing, (dear, ("dear", "dear"))), ["cross", crossing, (dear, dear)], ("cross", crossing, [dear, dear]), ("cross", crossing),
                ("cross", crossing, (dear, dear), ()), ("crosses", crossing, (dear, dear)), ("dear", ()), "dear", ("dea",),
                ("cross", list(crossing), (dear, dear)), ("cross", crossing + ((),), (dear, dear)),
                ("cross", ([0, 1], (0, 1, 2)), (dear, dear)), ("cross", ((False, True), (0, 1, 2)), (dear, dear)),
                ("cross", ((0, 1), (False, True, 2)), (dear, dear)), ("cross", ((0, 1), (0, 1)), (dear, dear)),
                ("cross", ((0, 1, 1), (0, 1, 2)), (dear, dear)), ("cross", ((0, 2), (0, 1, 2)), (dear, dear)),
                ("cross", ((0, 1), (0, 1, 3)), (dear, dear)), ("cross", crossing, (dear, ["dear"])),
                (b"cross", crossing, (dear, dear)), (Unfriendly(), crossing, (dear, dear)),
                ("cross", Unfriendly(), (dear, dear)), ("cross", (Unfriendly(), (0, 1, 2)), (dear, dear)),
                ("cross", ((0, 1), Unfriendly()), (dear, dear)), ("cross", crossing, Unfriendly()),
                ("cross", crossing, (dear, Unfriendly())), (Unfriendly(),)):
            self.assertFalse(is_repair_paper(*case, RepairPaper(right.cost, right.lot, value)))
        for item in SINGLES:
            self.assertFalse(is_repair_paper(*case, RepairPaper(2, (1,), ("cross", crossing, (dear, (item,))))))
            self.assertFalse(is_repair_paper(*case, RepairPaper(2, (1,), ("cross", ((0, item), (0, 1, 2)), (dear, dear)))))


if __name__ == "__main__":
    unittest.main()
