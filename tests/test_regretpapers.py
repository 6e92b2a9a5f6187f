"""[57] Papers that show that a row tells kinds apart, and [58] that no row with fewer requests does."""

import itertools
import random
import unittest

from helpers import (SINGLES, Bag, Unfriendly, all_servings, apart_by_trying, cases_within, crossing_cases, error_of,
                     large_case, odd_values, rows_up_to, safe_by_trying, served, subsets, without_unit)
from neverregret.fewestrows import fewest_requests, types_within
from neverregret.fullpapers import FullPaper, full_paper, paper_rest
from neverregret.plain import row_within
from neverregret.regretpapers import (FewestPaper, RegretPaper, fewest_row_paper, is_fewest_row_paper, is_regret_paper,
                                      regret_paper, row_paper)
from neverregret.regretrows import tells_apart
from neverregret.safe import unit_kinds
from neverregret.tables import Table, kinds_of_types

TABLE = Table(("attic", "cellar"), (("any", (0, 1)), ("dark", (1,)), ("light", (0,))))
CASE = (TABLE, (2, 1), (1, 1, 2))
# two kinds beside, and types that need some of them
WIDE = Table(("a", "b", "c", "d"), (("p", (0,)), ("q", (0, 2)), ("r", (0, 3)), ("s", (1,)), ("t", (2, 3))))


def lesser_by_words(stock, one, other, many):
    """Return all lesser lots of two kinds and a row of so many requests, by trying all lots of kinds."""
    lots = [lot for lot in subsets(range(len(stock)))
            if one in lot and other not in lot and sum(stock[kind] for kind in lot) < many]
    return tuple(sorted(lot for lot in lots if not any(set(lot) < set(wider) for wider in lots)))


class RegretPaperTest(unittest.TestCase):
    def test_classes(self):
        paper = RegretPaper(one=1, other=2, row="r", serving=None, cover=())
        self.assertEqual((1, 2, "r", None, ()), (paper.one, paper.other, paper.row, paper.serving, paper.cover))
        fewest = FewestPaper(paper="p", papers=None)
        self.assertEqual(("p", None), (fewest.paper, fewest.papers))

    def test_examples(self):
        paper = row_paper(TABLE, (2, 1), 0, 1, (2, 2))
        self.assertIsInstance(paper, RegretPaper)
        self.assertEqual((0, 1, (2, 2), (0, 0)), (paper.one, paper.other, paper.row, paper.serving))
        self.assertIs(True, is_regret_paper(*CASE, paper))
        self.assertIs(True, is_regret_paper(*CASE, regret_paper(*CASE, 0, 1)))
        self.assertIs(False, is_regret_paper(TABLE, (2, 1), (1, 1, 1), paper))

    def test_row_papers_by_trying(self):
        found = 0
        for table, stock, bounds in cases_within(50, 570) + crossing_cases(25, 571):
            for row in rows_up_to((None,) * len(table.types), min(4, sum(stock) + 1)):
                for one, other in itertools.product(unit_kinds(stock), repeat=2):
                    if apart_by_trying(table, stock, one, other, row):
                        found += 1
                        paper = row_paper(table, stock, one, other, row)
                        self.assertEqual((one, other, row), (paper.one, paper.other, paper.row))
                        self.assertIs(row_within(table, bounds, row), is_regret_paper(table, stock, bounds, paper))
                    else:
                        self.assertEqual(("Refused", "row"), error_of(row_paper, table, stock, one, other, row))
        self.assertGreater(found, 100)

    def test_regret_papers(self):
        many = [0, 0]
        for table, stock, bounds in cases_within(120, 572) + crossing_cases(50, 573):
            pairs = safe_by_trying(table, stock, bounds)
            for one, other in itertools.product(unit_kinds(stock), repeat=2):
                many[(one, other) in pairs] += 1
                if (one, other) in pairs:
                    self.assertEqual(("Refused", "safe"), error_of(regret_paper, table, stock, bounds, one, other))
                    self.assertEqual(("Refused", "safe"), error_of(fewest_row_paper, table, stock, bounds, one, other))
                else:
                    paper = regret_paper(table, stock, bounds, one, other)
                    self.assertEqual((one, other), (paper.one, paper.other))
                    self.assertTrue(is_regret_paper(table, stock, bounds, paper))
        self.assertGreater(min(many), 60)

    def test_all_papers(self):
        """Try all servings and lots: some of a row are right exactly if it tells the kinds apart."""
        for table, stock, bounds in cases_within(20, 574, 2, 3, (0, 1, 1, 2)) + crossing_cases(6, 575, 2, 4):
            kinds = range(len(table.kinds))
            for row in rows_up_to((None,) * len(table.types), 2):
                for one, other in itertools.product(kinds, repeat=2):
                    there = stock[one] > 0 and stock[other] > 0
                    found = False
                    for serving in all_servings(table, stock, row):
                        for cover in subsets(range(len(table.types))):
                            paper = RegretPaper(one, other, row, serving, cover)
                            right = there and row_within(table, bounds, row)
                            if right:
                                lefts = without_unit(stock, one)
                                worth = sum(request not in cover for request in row) + sum(
                                    lefts[kind] for kind in kinds_of_types(table, cover))
                                right = (serving.count(other) < stock[other] and worth < served(serving))
                            self.assertIs(right, is_regret_paper(table, stock, bounds, paper))
                            found = found or right
                    self.assertEqual(there and row_within(table, bounds, row)
                                     and apart_by_trying(table, stock, one, other, row), found)

    def test_kinds_without_units(self):
        table = Table(("a", "b", "c"), (("p", (0, 1)), ("q", (1, 2))))
        stock, bounds = (1, 0, 400), (None, 1)
        for one, other in ((0, 1), (1, 0), (1, 1), (2, 1), (1, 2)):
            self.assertEqual(("Refused", "unit"), error_of(row_paper, table, stock, one, other, (0,)))
            self.assertEqual(("Refused", "unit"), error_of(regret_paper, table, stock, bounds, one, other))
            self.assertEqual(("Refused", "unit"), error_of(fewest_row_paper, table, stock, bounds, one, other))
            # the judges raise nothing
            paper = RegretPaper(one, other, (0,), (0,), ())
            self.assertIs(False, is_regret_paper(table, stock, bounds, paper))
            self.assertIs(False, is_fewest_row_paper(table, stock, bounds, FewestPaper(paper, ())))
        self.assertIs(False, is_regret_paper(table, (0, 0, 0), bounds, RegretPaper(0, 1, (), (), ())))

    def test_rows_of_any_length(self):
        for length in (400, 401, 2000):
            paper = row_paper(TABLE, (400, 400), 0, 1, (2,) * length)
            self.assertIs(True, is_regret_paper(TABLE, (400, 400), (0, 0, None), paper))
            self.assertIs(length == 400, is_regret_paper(TABLE, (400, 400), (0, 0, 400), paper))
        self.assertEqual(("Refused", "row"), error_of(row_paper, TABLE, (400, 400), 0, 1, (2,) * 399))

    def test_other_values(self):
        right = regret_paper(*CASE, 0, 1)
        self.assertTrue(is_regret_paper(*CASE, right))
        for value in odd_values() + (RegretPaper, Bag(**vars(right)), tuple(vars(right).values()), FewestPaper(right, ())):
            self.assertIs(False, is_regret_paper(*CASE, value))
        fields = ("one", "other", "row", "serving", "cover")
        wrong = {"one": (1, 2, False, 0.0), "other": (0, 2, True, 1.0),
                 "row": ([2, 2], (2, 2.0), (2,), (2, 2, 2), (2, 3), (2, -1), ("light", "light")),
                 "serving": ([0, 0], (0, False), (0,), (0, None), (0, 1), (0, 0, None), (0, 0.0), (None, None)),
                 "cover": ([2], (2.0,), (0,), (1,), (3,), (2, 2), (2, 1), (0, 1), ())}
        for field in fields:
            for value in odd_values() + wrong[field]:
                values = dict(vars(right))
                values[field] = value
                self.assertFalse(is_regret_paper(*CASE, RegretPaper(**values)), field)
        for item in SINGLES:
            self.assertFalse(is_regret_paper(*CASE, RegretPaper(0, 1, (2, item), right.serving, right.cover)))
            self.assertFalse(is_regret_paper(*CASE, RegretPaper(0, 1, (2, 2), (0, item), right.cover)))
            self.assertFalse(is_regret_paper(*CASE, RegretPaper(0, 1, (2, 2), (0, 0), (2, item))))

    def test_large(self):
        rng = random.Random(576)
        found = 0
        for _ in range(25):
            table, stock, bounds = large_case(rng)
            for one, other in itertools.permutations(unit_kinds(stock), 2):
                if error_of(regret_paper, table, stock, bounds, one, other) is None:
                    found += 1
                    self.assertTrue(is_regret_paper(table, stock, bounds,
                                                    regret_paper(table, stock, bounds, one, other)))
                    fewest = fewest_row_paper(table, stock, bounds, one, other)
                    self.assertTrue(is_fewest_row_paper(table, stock, bounds, fewest))
                    self.assertEqual(fewest_requests(table, stock, bounds, one, other), len(fewest.paper.row))
        self.assertGreater(found, 30)


class FewestPaperTest(unittest.TestCase):
    def test_example(self):
        paper = fewest_row_paper(*CASE, 0, 1)
        self.assertIsInstance(paper, FewestPaper)
        self.assertEqual((0, 1, 2), (paper.paper.one, paper.paper.other, len(paper.paper.row)))
        self.assertIs(True, is_fewest_row_paper(*CASE, paper))
        # the one kind has as many units as the row has requests, so that there is no lesser lot
        self.assertEqual((), paper.papers)

    def test_lesser_lots(self):
        stock, bounds = (1, 1, 1, 1), (0, None, 1, None, 1)
        paper = fewest_row_paper(WIDE, stock, bounds, 0, 1)
        self.assertEqual(2, len(paper.paper.row))
        self.assertEqual(((0,),), lesser_by_words(stock, 0, 1, 2))
        self.assertEqual(1, len(paper.papers))
        self.assertTrue(is_fewest_row_paper(WIDE, stock, bounds, paper))
        longer = row_paper(WIDE, stock, 0, 1, (1, 1, 2))
        self.assertTrue(is_regret_paper(WIDE, stock, bounds, longer))
        papers = tuple(full_paper(WIDE, stock, bounds, types_within(WIDE, lot))
                       for lot in lesser_by_words(stock, 0, 1, 3))
        self.assertEqual(((0, 2), (0, 3)), lesser_by_words(stock, 0, 1, 3))
        self.assertFalse(is_fewest_row_paper(WIDE, stock, bounds, FewestPaper(longer, papers)))

    def test_kinds_without_units_are_in_lesser_lots(self):
        stock, bounds = (1, 1, 1, 0), (0, None, 0, None, 1)
        self.assertEqual(((0, 3),), lesser_by_words(stock, 0, 1, 2))
        paper = fewest_row_paper(WIDE, stock, bounds, 0, 1)
        self.assertEqual((0, 2), paper.papers[0].types)
        self.assertTrue(is_fewest_row_paper(WIDE, stock, bounds, paper))
        without = FewestPaper(paper.paper, (full_paper(WIDE, stock, bounds, (0,)),))
        self.assertFalse(is_fewest_row_paper(WIDE, stock, bounds, without))

    def test_there_exactly_if_no_row_has_fewer(self):
        with_lots = longer = 0
        for table, stock, bounds in cases_within(90, 580, 3, 4) + crossing_cases(50, 581) + crossing_cases(40, 582, 4):
            rows = rows_up_to(bounds, sum(stock) + 1)
            for one, other in itertools.permutations(unit_kinds(stock), 2):
                apart = [row for row in rows if tells_apart(table, stock, one, other, row)]
                if not apart:
                    continue
                fewest = min(map(len, apart))
                paper = fewest_row_paper(table, stock, bounds, one, other)
                self.assertTrue(is_fewest_row_paper(table, stock, bounds, paper))
                self.assertEqual(fewest, len(paper.paper.row))
                self.assertIn(paper.paper.row, apart)
                for row in apart:
                    lots = lesser_by_words(stock, one, other, len(row))
                    papers = tuple(full_paper(table, stock, bounds, types_within(table, lot)) for lot in lots)
                    found = FewestPaper(row_paper(table, stock, one, other, row), papers)
                    self.assertIs(len(row) == fewest, is_fewest_row_paper(table, stock, bounds, found))
                    with_lots += len(lots) > 1
                    longer += len(row) > fewest
        self.assertGreater(min(with_lots, longer), 40)

    def test_judge_by_words(self):
        for table, stock, bounds in crossing_cases(30, 583) + cases_within(40, 584, 3, 3):
            for one, other in itertools.permutations(unit_kinds(stock), 2):
                if error_of(fewest_row_paper, table, stock, bounds, one, other) is not None:
                    continue
                right = fewest_row_paper(table, stock, bounds, one, other)
                lots = lesser_by_words(stock, one, other, len(right.paper.row))
                self.assertEqual([types_within(table, lot) for lot in lots], [paper.types for paper in right.papers])
                for paper in right.papers:
                    self.assertNotIn(one, kinds_of_types(table, paper_rest(table, paper)))
                self.assertFalse(is_fewest_row_paper(table, stock, bounds,
                                                     FewestPaper(right.paper, right.papers + right.papers[:1] + (None,))))
                if right.papers:
                    self.assertFalse(is_fewest_row_paper(table, stock, bounds,
                                                         FewestPaper(right.paper, right.papers[1:])))
                if len({paper.types for paper in right.papers}) > 1:
                    self.assertFalse(is_fewest_row_paper(table, stock, bounds,
                                                         FewestPaper(right.paper, right.papers[::-1])))

    def test_other_values(self):
        case = (WIDE, (1, 1, 1, 1), (0, None, 1, None, 1))
        right = fewest_row_paper(*case, 0, 1)
        for value in odd_values() + (FewestPaper, right.paper, Bag(**vars(right)), (right.paper, right.papers)):
            self.assertIs(False, is_fewest_row_paper(*case, value))
        paper = right.paper
        for value in odd_values() + (right, Bag(**vars(paper)), RegretPaper(0, 1, paper.row, paper.serving, None),
                                     RegretPaper(False, True, paper.row, paper.serving, paper.cover)):
            self.assertFalse(is_fewest_row_paper(*case, FewestPaper(value, right.papers)))
        full = right.papers[0]
        for value in odd_values() + (list(right.papers), (), right.papers * 2, (full.types,),
                                     (FullPaper(full.types, full.gap, None),), (Bag(**vars(full)),),
                                     (FullPaper([0], full.gap, full.taking),), (full_paper(*case, (0, 1)),)):
            self.assertFalse(is_fewest_row_paper(*case, FewestPaper(paper, value)))
        for item in SINGLES + (Unfriendly(),):
            self.assertFalse(is_fewest_row_paper(*case, FewestPaper(paper, (item,))))


if __name__ == "__main__":
    unittest.main()
