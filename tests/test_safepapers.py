"""[53] Papers that show whether a kind is safe against another one."""

import itertools
import random
import unittest

from helpers import (SINGLES, Bag, Unfriendly, cases_within, crossing_cases, error_of, large_case, odd_values,
                     safe_by_trying, subsets)
from neverregret.fullpapers import FullPaper, full_paper, paper_rest
from neverregret.safe import is_safe, unit_kinds
from neverregret.safepapers import SafePaper, WorsePaper, comparison_paper, is_safe_paper, is_worse_paper
from neverregret.takings import greatest_taking, is_taking, units_by_kind
from neverregret.tables import Table, accepted, kinds_of_types, types_without

TABLE = Table(("attic", "cellar"), (("any", (0, 1)), ("dark", (1,)), ("light", (0,))))
CASE = (TABLE, (2, 1), (0, 1, 1))


def all_takings(table, stock, bounds):
    """Return all takings, by trying."""
    found = [()]
    for request in range(len(table.types)):
        units = [range(stock[kind] + 1) if kind in accepted(table, request) else (0,)
                 for kind in range(len(table.kinds))]
        found = [taking + (item,) for taking in found for item in itertools.product(*units)]
    return [taking for taking in found if is_taking(table, stock, bounds, taking)]


class ComparisonTest(unittest.TestCase):
    def test_classes(self):
        safe = SafePaper(one=1, other="x", paper=None)
        self.assertEqual((1, "x", None), (safe.one, safe.other, safe.paper))
        worse = WorsePaper(one=1, other=2, types="t", taking=())
        self.assertEqual((1, 2, "t", ()), (worse.one, worse.other, worse.types, worse.taking))

    def test_examples(self):
        safe = comparison_paper(*CASE, 0, 1)
        self.assertIsInstance(safe, SafePaper)
        self.assertEqual((0, 1), (safe.one, safe.other))
        self.assertIs(True, is_safe_paper(*CASE, safe))
        self.assertIs(False, is_worse_paper(*CASE, safe))
        worse = comparison_paper(*CASE, 1, 0)
        self.assertIsInstance(worse, WorsePaper)
        self.assertEqual((1, 0, (1,), ((0, 0), (0, 1), (0, 0))), (worse.one, worse.other, worse.types, worse.taking))
        self.assertIs(True, is_worse_paper(*CASE, worse))
        self.assertIs(False, is_safe_paper(*CASE, worse))

    def test_one_class_for_two_kinds(self):
        many = [0, 0]
        for table, stock, bounds in cases_within(150, 530) + crossing_cases(40, 531):
            pairs = safe_by_trying(table, stock, bounds)
            for one, other in itertools.product(unit_kinds(stock), repeat=2):
                paper = comparison_paper(table, stock, bounds, one, other)
                is_right_safe = is_safe_paper(table, stock, bounds, paper)
                self.assertEqual((one, other) in pairs, is_right_safe)
                self.assertEqual((one, other) not in pairs, is_worse_paper(table, stock, bounds, paper))
                self.assertIsInstance(paper, SafePaper if is_right_safe else WorsePaper)
                self.assertEqual((one, other), (paper.one, paper.other))
                many[is_right_safe] += 1
        self.assertGreater(min(many), 60)

    def test_all_worse_papers(self):
        """Try all types and takings: some is right exactly if the one kind is not safe against the other."""
        for table, stock, bounds in cases_within(40, 532, 3, 2, (0, 1, 1, 2), most_units=4):
            pairs = safe_by_trying(table, stock, bounds)
            takings = all_takings(table, stock, bounds)
            for one, other in itertools.product(range(len(table.kinds)), repeat=2):
                found = False
                for types in subsets(range(len(table.types))):
                    kinds = kinds_of_types(table, types)
                    for taking in takings:
                        alone = all(request in types or not any(units) for request, units in enumerate(taking))
                        used_up = all(units_by_kind(table, taking)[kind] == stock[kind] for kind in kinds)
                        right = (stock[one] > 0 and stock[other] > 0 and one in kinds and other not in kinds
                                 and alone and used_up)
                        paper = WorsePaper(one, other, types, taking)
                        self.assertIs(right, is_worse_paper(table, stock, bounds, paper))
                        found = found or right
                self.assertEqual(stock[one] > 0 and stock[other] > 0 and (one, other) not in pairs, found)

    def test_all_safe_papers(self):
        """Try the right papers of all lots of types, with all pairs of kinds."""
        for table, stock, bounds in cases_within(60, 533) + crossing_cases(20, 534):
            pairs = safe_by_trying(table, stock, bounds)
            for types in subsets(range(len(table.types))):
                paper = full_paper(table, stock, bounds, types)
                rest = kinds_of_types(table, paper_rest(table, paper))
                for one, other in itertools.product(range(len(table.kinds)), repeat=2):
                    right = (stock[one] > 0 and stock[other] > 0 and types == types_without(table, other)
                             and one not in rest)
                    self.assertIs(right, is_safe_paper(table, stock, bounds, SafePaper(one, other, paper)))
                    if right:
                        self.assertIn((one, other), pairs)

    def test_kinds_without_units(self):
        table = Table(("a", "b", "c"), (("p", (0, 1)), ("q", (1, 2))))
        stock, bounds = (1, 0, 400), (None, 1)
        for one, other in ((0, 1), (1, 0), (1, 1), (2, 1), (1, 2)):
            self.assertEqual(("Refused", "unit"), error_of(comparison_paper, table, stock, bounds, one, other))
            paper = full_paper(table, stock, bounds, types_without(table, other))
            self.assertIs(False, is_safe_paper(table, stock, bounds, SafePaper(one, other, paper)))
        taking = greatest_taking(table, stock, (None, None), (1,))
        self.assertIs(False, is_worse_paper(table, stock, (None, None), WorsePaper(1, 0, (1,), taking)))
        self.assertIs(True, is_worse_paper(table, stock, (None, None), WorsePaper(2, 0, (1,), taking)))

    def test_large(self):
        rng = random.Random(535)
        for _ in range(20):
            table, stock, bounds = large_case(rng)
            for one, other in itertools.product(unit_kinds(stock), repeat=2):
                paper = comparison_paper(table, stock, bounds, one, other)
                safe = is_safe(table, stock, bounds, one, other)
                self.assertEqual(safe, is_safe_paper(table, stock, bounds, paper))
                self.assertEqual(not safe, is_worse_paper(table, stock, bounds, paper))


class JudgeTest(unittest.TestCase):
    def test_other_values(self):
        safe = comparison_paper(*CASE, 0, 1)
        worse = comparison_paper(*CASE, 1, 0)
        for value in odd_values() + (SafePaper, WorsePaper, safe.paper, Bag(one=0, other=1, paper=safe.paper),
                                     Bag(one=1, other=0, types=worse.types, taking=worse.taking), (0, 1, safe.paper)):
            self.assertIs(False, is_safe_paper(*CASE, value))
            self.assertIs(False, is_worse_paper(*CASE, value))

    def test_other_attributes_of_safe_papers(self):
        right = comparison_paper(*CASE, 0, 1)
        for value in odd_values() + (2, 1.5):
            self.assertIs(False, is_safe_paper(*CASE, SafePaper(value, 1, right.paper)))
            self.assertIs(False, is_safe_paper(*CASE, SafePaper(0, value, right.paper)))
        for value in (False, 0.0, (0,), "0", None, 2, -2):
            self.assertFalse(is_safe_paper(*CASE, SafePaper(value, 1, right.paper)))
        for value in (True, 1.0, (1,), "1", None, 3, -1):
            self.assertFalse(is_safe_paper(*CASE, SafePaper(0, value, right.paper)))
        paper = right.paper
        for value in odd_values() + (FullPaper, SafePaper(0, 1, paper), (paper,), Bag(**vars(paper)),
                                     FullPaper(list(paper.types), paper.gap, paper.taking),
                                     FullPaper(paper.types, paper.gap, None),
                                     FullPaper(paper.types, (), paper.taking),
                                     FullPaper((), (), ((0, 0),) * 3)):
            self.assertFalse(is_safe_paper(*CASE, SafePaper(0, 1, value)))
        for item in SINGLES:
            self.assertFalse(is_safe_paper(*CASE, SafePaper(0, 1, FullPaper((2, item), paper.gap, paper.taking))))
        # what is right for other types shows nothing
        self.assertFalse(is_safe_paper(*CASE, SafePaper(0, 1, full_paper(*CASE, (1, 2)))))
        self.assertFalse(is_safe_paper(*CASE, SafePaper(1, 0, full_paper(*CASE, (1,)))))

    def test_other_attributes_of_worse_papers(self):
        right = comparison_paper(*CASE, 1, 0)
        for value in odd_values() + (0, 2, 1.0, True):
            self.assertFalse(is_worse_paper(*CASE, WorsePaper(value, 0, right.types, right.taking)))
        for value in odd_values() + (1, 2, 0.0, False):
            self.assertFalse(is_worse_paper(*CASE, WorsePaper(1, value, right.types, right.taking)))
        for value in odd_values() + ([1], (True,), (1.0,), (0,), (2,), (1, 2), (1, 1), (3,), ()):
            self.assertFalse(is_worse_paper(*CASE, WorsePaper(1, 0, value, right.taking)))
        for value in odd_values() + (list(right.taking), ((0, 0),) * 3, ((0, 1), (0, 0), (0, 0)),
                                     ((0, 0), (0, True), (0, 0)), ((0, 0), (0, 2), (0, 0)), ((0, 0), (0, 1)),
                                     ((0, 0), (0, 1), (1, 0)), ((0, 0), (0, 1, 0), (0, 0)),
                                     ((0, 0), (0, 1), (0, Unfriendly()))):
            self.assertFalse(is_worse_paper(*CASE, WorsePaper(1, 0, right.types, value)))

    def test_bounds_count(self):
        paper = comparison_paper(TABLE, (2, 1), (None, 1, 2), 0, 1)
        self.assertIsInstance(paper, WorsePaper)
        self.assertTrue(is_worse_paper(TABLE, (2, 1), (None, 0, None), paper))
        self.assertFalse(is_worse_paper(TABLE, (2, 1), (None, 0, 1), paper))
        self.assertFalse(is_worse_paper(TABLE, (3, 1), (None, 0, 2), paper))
        self.assertFalse(is_worse_paper(TABLE, (2, 0), (None, 0, 2), paper))


if __name__ == "__main__":
    unittest.main()
