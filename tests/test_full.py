"""[46], [47] Full lots and [48] papers."""

import itertools
import random
import unittest

from helpers import SINGLES, Bag, Unfriendly, error_of, most, odd_values, random_table, random_tables, subsets
from neverregret.full import full_cores, full_lots, full_row, greatest_full, greatest_within, is_full
from neverregret.fullpapers import FullPaper, full_paper, is_full_paper, paper_rest
from neverregret.gaps import is_gap, takers_among, worst_gap
from neverregret.plain import is_serving, row_within, sorted_rows
from neverregret.takings import is_taking, units_by_kind
from neverregret.tables import Table, accepted, kinds_of_types, types_without

TABLE = Table(("attic", "cellar"), (("any", (0, 1)), ("dark", (1,)), ("light", (0,))))


def cases(many, seed, types=4):
    """Return small tables with a stock and bounds each."""
    rng = random.Random(seed)
    found = []
    for table in random_tables(many, seed, 3, types):
        stock = tuple(rng.randint(0, 2) for _ in table.kinds)
        found.append((table, stock, tuple(rng.choice((None, 0, 1, 2)) for _ in table.types)))
    return found


def is_full_by_rows(table, stock, bounds, types):
    """Return whether some row of these types uses up all units that they accept, by trying the greatest row."""
    kinds = kinds_of_types(table, types)
    limits = [sum(stock) if bound is None else bound for bound in bounds]
    row = [request for request in types for _ in range(limits[request])]
    return most(table, stock, row) == sum(stock[kind] for kind in kinds)


def many_types(many):
    """Return a table with so many types, each of which accepts one kind."""
    return Table(("a", "b"), tuple((name, (at % 2,)) for at, name in enumerate("klmnopqrstuv"[:many])))


class FullTest(unittest.TestCase):
    def test_examples(self):
        self.assertEqual([(1,), ()], [greatest_full(TABLE, (2, 1), (3, 1, 1), kind) for kind in (0, 1)])
        self.assertEqual(((1,), (1,)), full_row(TABLE, (2, 1), (3, 1, 1), (1,)))
        self.assertEqual(((0, 1), (0, 1, 2), (0,), ()),
                         tuple(lot for lot in ((0, 1), (0, 1, 2), (0,), ()) if is_full(TABLE, (2, 1), (3, 1, 1), lot)))
        self.assertIs(False, is_full(TABLE, (2, 1), (3, 1, 1), (2,)))
        self.assertIs(True, is_full(TABLE, (2, 1), (3, 1, 1), (1,)))
        self.assertEqual(((), (0,), (0, 1), (0, 1, 2), (0, 2), (1,)), full_lots(TABLE, (2, 1), (3, 1, 1)))
        self.assertEqual(((0,), (0, 2), (1,)), full_cores(TABLE, (2, 1), (3, 1, 1)))

    def test_edges(self):
        none = Table(("a",), ())
        self.assertEqual((((),), (), ()), (full_lots(none, (3,), ()), full_cores(none, (3,), ()),
                                           greatest_full(none, (3,), (), 0)))
        self.assertEqual(((), ()), full_row(none, (3,), (), ()))
        # without bounds all lots are full, with bounds of 0 those that accept no units
        self.assertEqual(8, len(full_lots(TABLE, (400, 400), (None, None, None))))
        self.assertEqual(((),), full_lots(TABLE, (1, 1), (0, 0, 0)))
        self.assertEqual(((), (2,)), full_lots(TABLE, (0, 1), (0, 0, 0)))
        self.assertEqual(8, len(full_lots(TABLE, (0, 0), (0, 0, 0))))
        empty = Table(("a", "b"), (("p", ()), ("q", (0,))))
        self.assertEqual(((), (0,)), full_lots(empty, (1, 1), (0, 0)))
        self.assertEqual((0,), greatest_full(empty, (1, 1), (0, 0), 1))
        self.assertEqual((0,), greatest_full(empty, (1, 1), (None, None), 0))

    def test_size(self):
        eight = many_types(8)
        self.assertEqual(256, len(full_lots(eight, (1, 1), (None,) * 8)))
        self.assertEqual(tuple((at,) for at in range(8)), full_cores(eight, (1, 1), (None,) * 8))
        for many in (9, 12):
            for function in (full_lots, full_cores):
                self.assertEqual(("Refused", "size"), error_of(function, many_types(many), (1, 1), (None,) * many))
            self.assertTrue(is_full(many_types(many), (1, 1), (None,) * many, tuple(range(many))))

    def test_other_values(self):
        for value in odd_values() + ([1], (1, 0), (1, 1), (0, 1, 2, 3), (3,), (-1,), (True,), (False,), (0, True)):
            self.assertIs(False, is_full(TABLE, (2, 1), (None, None, None), value))
        self.assertFalse(is_full(TABLE, (0, 0), (None, None, None), (0, Unfriendly())))

    def test_by_trying(self):
        for table, stock, bounds in cases(90, 460):
            lots = [lot for lot in subsets(range(len(table.types))) if is_full_by_rows(table, stock, bounds, lot)]
            self.assertEqual(tuple(sorted(lots)), full_lots(table, stock, bounds))
            for lot in subsets(range(len(table.types))):
                self.assertEqual(lot in lots, is_full(table, stock, bounds, lot))
                gaps = [part for part in subsets(kinds_of_types(table, lot)) if is_gap(table, stock, bounds, lot, part)]
                self.assertEqual(lot in lots, not gaps)
                if lot in lots:
                    row, serving = full_row(table, stock, bounds, lot)
                    self.assertTrue(row_within(table, bounds, row) and set(row) <= set(lot))
                    self.assertTrue(is_serving(table, stock, row, serving) and None not in serving)
                    self.assertEqual([stock[kind] for kind in kinds_of_types(table, lot)],
                                     [serving.count(kind) for kind in kinds_of_types(table, lot)])
                else:
                    self.assertEqual(("Refused", "full"), error_of(full_row, table, stock, bounds, lot))
                self.check_greatest(table, stock, bounds, lot, lots, gaps)
            for one, other in itertools.product(lots, repeat=2):
                self.assertIn(tuple(sorted(set(one) | set(other))), lots)
            cores = [lot for lot in lots if set().union(*[part for part in lots if set(part) < set(lot)]) != set(lot)]
            self.assertEqual(tuple(sorted(cores)), full_cores(table, stock, bounds))
            for kind in range(len(table.kinds)):
                self.assertEqual(greatest_within(table, stock, bounds, types_without(table, kind)),
                                 greatest_full(table, stock, bounds, kind))

    def check_greatest(self, table, stock, bounds, types, lots, gaps):
        within = [set(lot) for lot in lots if set(lot) <= set(types)]
        greatest = greatest_within(table, stock, bounds, types)
        self.assertEqual(set().union(*within), set(greatest))
        self.assertIn(greatest, lots)
        left_out = takers_among(table, types, worst_gap(table, stock, bounds, types))
        self.assertEqual(tuple(request for request in types if request not in left_out), greatest)
        # any gaps do, one after another
        present = types
        while gaps:
            present = tuple(sorted(set(present) - set(takers_among(table, present, gaps[-1]))))
            gaps = [part for part in subsets(kinds_of_types(table, present))
                    if is_gap(table, stock, bounds, present, part)]
        self.assertEqual(greatest, present)

    def test_full_by_one_row(self):
        for table, stock, bounds in cases(40, 461, 3):
            if sum(stock) > 4:
                continue
            rows = sorted_rows(table, bounds, 5)
            served = {row: most(table, stock, row) for row in rows}
            for lot in subsets(range(len(table.types))):
                units = sum(stock[kind] for kind in kinds_of_types(table, lot))
                found = any(number == units + sum(request not in lot for request in row)
                            for row, number in served.items())
                self.assertEqual(found, is_full(table, stock, bounds, lot))


class PaperTest(unittest.TestCase):
    def test_examples(self):
        paper = full_paper(TABLE, (2, 1), (3, 1, 1), (1, 2))
        self.assertEqual(((0,), ((0, 0), (0, 1), (0, 0))), (paper.gap, paper.taking))
        self.assertEqual((1,), paper_rest(TABLE, paper))
        self.assertIs(True, is_full_paper(TABLE, (2, 1), (3, 1, 1), paper))

    def test_attributes(self):
        paper = FullPaper(types=1, gap="x", taking=None)
        self.assertEqual((1, "x", None), (paper.types, paper.gap, paper.taking))
        self.assertEqual((1, 2), paper_rest(TABLE, FullPaper((1, 2), (), ())))
        self.assertEqual((2,), paper_rest(TABLE, FullPaper((0, 1, 2), (1,), ())))
        self.assertEqual((), paper_rest(TABLE, FullPaper((0, 1, 2), (0, 1), ())))

    def test_rest_is_the_greatest_full_lot(self):
        for table, stock, bounds in cases(120, 480):
            for types in subsets(range(len(table.types))):
                paper = full_paper(table, stock, bounds, types)
                self.assertEqual(types, paper.types)
                self.assertTrue(is_full_paper(table, stock, bounds, paper))
                self.assertEqual(greatest_within(table, stock, bounds, types), paper_rest(table, paper))
                self.assertEqual(is_full(table, stock, bounds, types), paper_rest(table, paper) == types)

    def test_judge_by_words(self):
        for table, stock, bounds in cases(26, 481, 2):
            takings = [()]
            for request in range(len(table.types)):
                units = [range(stock[kind] + 1) if kind in accepted(table, request) else (0,)
                         for kind in range(len(table.kinds))]
                takings = [taking + (item,) for taking in takings for item in itertools.product(*units)]
            takings = [taking for taking in takings if is_taking(table, stock, bounds, taking)]
            for types in subsets(range(len(table.types))):
                for gap in subsets(range(len(table.kinds))):
                    is_right_gap = gap == () or is_gap(table, stock, bounds, types, gap)
                    rest = [request for request in types if not set(accepted(table, request)) & set(gap)]
                    for taking in takings:
                        alone = all(request in rest or not any(units) for request, units in enumerate(taking))
                        kinds = kinds_of_types(table, rest)
                        all_of = all(units_by_kind(table, taking)[kind] == stock[kind] for kind in kinds)
                        paper = FullPaper(types, gap, taking)
                        self.assertEqual(is_right_gap and alone and all_of, is_full_paper(table, stock, bounds, paper))
                        if is_right_gap and alone and all_of:
                            self.assertEqual(greatest_within(table, stock, bounds, types), tuple(rest))

    def test_other_values(self):
        right = full_paper(TABLE, (2, 1), (3, 1, 1), (1, 2))
        for value in odd_values() + (FullPaper, Bag(types=right.types, gap=right.gap, taking=right.taking)):
            self.assertIs(False, is_full_paper(TABLE, (2, 1), (3, 1, 1), value))
        wrong = odd_values() + ([1, 2], (2, 1), (1, 2, 3), (1, True), (1, 1, 2))
        for value in wrong:
            self.assertFalse(is_full_paper(TABLE, (2, 1), (3, 1, 1), FullPaper(value, right.gap, right.taking)))
        for value in odd_values() + ([0], (False,), (0, 1), (1,), (2,), (0, 0), ()):
            self.assertFalse(is_full_paper(TABLE, (2, 1), (3, 1, 1), FullPaper(right.types, value, right.taking)))
        for value in odd_values() + (((0, 0), (0, 1)), ((0, 0), (0, 0), (0, 0)), ((0, 1), (0, 0), (0, 0)),
                                     ((0, 0), (0, 1), (1, 0)), ((0, 0), (0, True), (0, 0)), list(right.taking)):
            self.assertFalse(is_full_paper(TABLE, (2, 1), (3, 1, 1), FullPaper(right.types, right.gap, value)))
        for item in SINGLES:
            self.assertFalse(is_full_paper(TABLE, (2, 1), (3, 1, 1), FullPaper((1, item), right.gap, right.taking)))
            self.assertFalse(is_full_paper(TABLE, (2, 1), (3, 1, 1), FullPaper((1, 2), (0, item), right.taking)))

    def test_large(self):
        rng = random.Random(482)
        for _ in range(40):
            table = random_table(rng, 8, 12)
            stock = tuple(rng.choice((0, 1, 399, 400)) for _ in table.kinds)
            bounds = tuple(rng.choice((None, 0, 1, 200, 400)) for _ in table.types)
            types = tuple(request for request in range(len(table.types)) if rng.random() < 0.8)
            paper = full_paper(table, stock, bounds, types)
            self.assertTrue(is_full_paper(table, stock, bounds, paper))
            rest = paper_rest(table, paper)
            self.assertEqual(rest, greatest_within(table, stock, bounds, types))
            row, serving = full_row(table, stock, bounds, rest)
            self.assertTrue(is_serving(table, stock, row, serving) and row_within(table, bounds, row))
            self.assertEqual(sum(stock[kind] for kind in kinds_of_types(table, rest)), len(row))


if __name__ == "__main__":
    unittest.main()
