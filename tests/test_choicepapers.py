"""[53] Papers that show that a kind is a best one, or that there is none."""

import itertools
import random
import unittest

from helpers import (SINGLES, Bag, Unfriendly, cases_within, crossing_cases, error_of, large_case, odd_values,
                     safe_by_trying)
from neverregret.choicepapers import ChoicePaper, NoChoicePaper, choice_paper, is_choice_paper, is_no_choice_paper
from neverregret.choices import best_kinds, kinds_at_hand
from neverregret.safe import is_safe
from neverregret.safepapers import SafePaper, WorsePaper, comparison_paper, is_safe_paper, is_worse_paper
from neverregret.tables import Table

TABLE = Table(("attic", "cellar", "den"), (("any", (0, 1, 2)), ("dark", (1,)), ("light", (0,)), ("none", ())))
STOCK = (2, 1, 1)
BEST = (None, 0, None, None)
NONE = (0, 1, 2, None)
# the den is taken by all types but one, so that it is no better
DEN = Table(("attic", "cellar", "den"), (("any", (0, 1, 2)), ("dark", (1,)), ("dim", (2,)), ("light", (0,))))


class ChoicePaperTest(unittest.TestCase):
    def test_classes(self):
        paper = ChoicePaper(request=1, kind="x", papers=None)
        self.assertEqual((1, "x", None), (paper.request, paper.kind, paper.papers))
        other = NoChoicePaper(request=2, papers="y")
        self.assertEqual((2, "y"), (other.request, other.papers))

    def test_examples(self):
        paper = choice_paper(TABLE, STOCK, BEST, 0)
        self.assertIsInstance(paper, ChoicePaper)
        self.assertEqual((0, 2), (paper.request, len(paper.papers)))
        self.assertIs(True, is_choice_paper(TABLE, STOCK, BEST, paper))
        self.assertIs(False, is_no_choice_paper(TABLE, STOCK, BEST, paper))
        paper = choice_paper(DEN, (1, 1, 1), (None, 1, 1, 1), 0)
        self.assertIsInstance(paper, NoChoicePaper)
        self.assertEqual((0, 3), (paper.request, len(paper.papers)))
        self.assertIs(True, is_no_choice_paper(DEN, (1, 1, 1), (None, 1, 1, 1), paper))
        self.assertIs(False, is_choice_paper(DEN, (1, 1, 1), (None, 1, 1, 1), paper))

    def test_one_kind_at_hand(self):
        paper = choice_paper(TABLE, STOCK, NONE, 1)
        self.assertEqual((1, 1, ()), (paper.request, paper.kind, paper.papers))
        self.assertIs(True, is_choice_paper(TABLE, STOCK, NONE, paper))
        self.assertIs(True, is_choice_paper(TABLE, STOCK, NONE, ChoicePaper(1, 1, ())))
        self.assertIs(False, is_choice_paper(TABLE, STOCK, NONE, ChoicePaper(1, 0, ())))
        self.assertIs(False, is_no_choice_paper(TABLE, STOCK, NONE, NoChoicePaper(1, ())))

    def test_no_kind_at_hand(self):
        for stock, request in ((STOCK, 3), ((2, 0, 5), 1), ((0, 0, 0), 0), ((0, 400, 400), 2)):
            self.assertEqual(("Refused", "unit"), error_of(choice_paper, TABLE, stock, (None,) * 4, request))
            for kind in (0, 1, 2, None):
                self.assertFalse(is_choice_paper(TABLE, stock, (None,) * 4, ChoicePaper(request, kind, ())))
            self.assertFalse(is_no_choice_paper(TABLE, stock, (None,) * 4, NoChoicePaper(request, ())))

    def test_one_class_for_each_request(self):
        many = [0, 0]
        for table, stock, bounds in cases_within(110, 536) + crossing_cases(110, 537):
            pairs = safe_by_trying(table, stock, bounds)
            for request, (_, lot) in enumerate(table.types):
                kinds = [kind for kind in lot if stock[kind]]
                if not kinds:
                    self.assertEqual(("Refused", "unit"), error_of(choice_paper, table, stock, bounds, request))
                    continue
                best = [one for one in kinds if all((one, other) in pairs for other in kinds)]
                paper = choice_paper(table, stock, bounds, request)
                self.assertEqual(bool(best), is_choice_paper(table, stock, bounds, paper))
                self.assertEqual(not best, is_no_choice_paper(table, stock, bounds, paper))
                self.assertIsInstance(paper, ChoicePaper if best else NoChoicePaper)
                self.assertEqual(request, paper.request)
                if best:
                    self.assertIn(paper.kind, best)
                many[not best] += 1
        self.assertGreater(min(many), 25)

    def test_each_best_kind_and_no_other_has_papers(self):
        for table, stock, bounds in cases_within(60, 538) + crossing_cases(60, 539):
            for request in range(len(table.types)):
                kinds = kinds_at_hand(table, stock, request)
                best = best_kinds(table, stock, bounds, request)
                for kind in range(len(table.kinds)):
                    papers = [comparison_paper(table, stock, bounds, kind, other)
                              for other in kinds if other != kind and stock[kind]]
                    self.assertEqual(kind in best,
                                     is_choice_paper(table, stock, bounds, ChoicePaper(request, kind, tuple(papers))))
                for others in itertools.product(kinds, repeat=len(kinds)):
                    papers = [comparison_paper(table, stock, bounds, kind, other)
                              for kind, other in zip(kinds, others)]
                    right = bool(kinds) and not any(is_safe(table, stock, bounds, kind, other)
                                                    for kind, other in zip(kinds, others))
                    self.assertEqual(right,
                                     is_no_choice_paper(table, stock, bounds, NoChoicePaper(request, tuple(papers))))

    def test_worse_against_kinds_not_at_hand(self):
        table = Table(("a", "b", "c"), (("p", (0, 1)), ("q", (0,)), ("r", (1,)), ("s", (2,))))
        stock, bounds = (1, 1, 1), (None, None, None, 0)
        right = choice_paper(table, stock, bounds, 0)
        self.assertTrue(is_no_choice_paper(table, stock, bounds, right))
        beside = comparison_paper(table, stock, bounds, 0, 2)
        self.assertTrue(is_worse_paper(table, stock, bounds, beside))
        self.assertFalse(is_no_choice_paper(table, stock, bounds, NoChoicePaper(0, (beside, right.papers[1]))))

    def test_large(self):
        rng = random.Random(540)
        for _ in range(25):
            table, stock, bounds = large_case(rng)
            for request in range(len(table.types)):
                if kinds_at_hand(table, stock, request):
                    paper = choice_paper(table, stock, bounds, request)
                    best = best_kinds(table, stock, bounds, request)
                    self.assertEqual(bool(best), is_choice_paper(table, stock, bounds, paper))
                    self.assertEqual(not best, is_no_choice_paper(table, stock, bounds, paper))


class JudgeTest(unittest.TestCase):
    def test_other_values(self):
        right = choice_paper(TABLE, STOCK, BEST, 0)
        for value in odd_values() + (ChoicePaper, NoChoicePaper, Bag(**vars(right)), right.papers,
                                     Bag(request=0, papers=right.papers)):
            self.assertIs(False, is_choice_paper(TABLE, STOCK, BEST, value))
            self.assertIs(False, is_no_choice_paper(TABLE, STOCK, BEST, value))

    def test_other_attributes_of_choice_papers(self):
        right = choice_paper(TABLE, STOCK, BEST, 0)
        papers = right.papers
        for value in odd_values() + (1, 2, 3, 4, False, 0.0):
            self.assertFalse(is_choice_paper(TABLE, STOCK, BEST, ChoicePaper(value, right.kind, papers)))
        for value in odd_values() + tuple(kind for kind in range(5) if kind != right.kind) + (float(right.kind),):
            self.assertFalse(is_choice_paper(TABLE, STOCK, BEST, ChoicePaper(0, value, papers)))
        one = choice_paper(DEN, (1, 1, 1), (None, 0, 0, 0), 0).papers
        self.assertEqual(2, len(one))
        for value in odd_values() + (list(papers), papers[:1], papers + papers[:1], papers[::-1], (papers[0],) * 2,
                                     (papers[0], SafePaper(papers[1].one, papers[1].other, None)),
                                     (papers[0].paper, papers[1].paper), (papers[0], Unfriendly())):
            self.assertFalse(is_choice_paper(TABLE, STOCK, BEST, ChoicePaper(0, right.kind, value)))
        for item in SINGLES:
            self.assertFalse(is_choice_paper(TABLE, STOCK, BEST, ChoicePaper(0, right.kind, (papers[0], item))))

    def test_papers_of_other_kinds(self):
        bounds = (0, 0, 0, 0)
        kinds = range(3)
        safe = {(one, other): comparison_paper(DEN, (1, 1, 1), bounds, one, other) for one in kinds for other in kinds}
        self.assertTrue(all(is_safe_paper(DEN, (1, 1, 1), bounds, paper) for paper in safe.values()))
        for kind in kinds:
            others = [other for other in kinds if other != kind]
            for pairs in itertools.product(safe, repeat=2):
                papers = tuple(safe[pair] for pair in pairs)
                self.assertEqual(pairs == ((kind, others[0]), (kind, others[1])),
                                 is_choice_paper(DEN, (1, 1, 1), bounds, ChoicePaper(0, kind, papers)))

    def test_other_attributes_of_no_choice_papers(self):
        case = (DEN, (1, 1, 1), (None, 1, 1, 1))
        right = choice_paper(*case, 0)
        papers = right.papers
        self.assertTrue(is_no_choice_paper(*case, NoChoicePaper(0, papers)))
        for value in odd_values() + (1, 2, 3, 4, False, 0.0):
            self.assertFalse(is_no_choice_paper(*case, NoChoicePaper(value, papers)))
        safe = comparison_paper(DEN, (1, 1, 1), (0, 0, 0, 0), papers[1].one, papers[1].other)
        for value in odd_values() + (list(papers), papers[:2], papers + papers[:1], papers[::-1], (papers[0],) * 3,
                                     (papers[0], papers[1], Unfriendly()), (papers[0], safe, papers[2]),
                                     papers[:2] + (WorsePaper(2, papers[2].other, papers[2].types, None),)):
            self.assertFalse(is_no_choice_paper(*case, NoChoicePaper(0, value)))
        for item in SINGLES:
            self.assertFalse(is_no_choice_paper(*case, NoChoicePaper(0, papers[:2] + (item,))))


if __name__ == "__main__":
    unittest.main()
