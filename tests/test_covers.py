"""[35] Covers and [36] their papers."""

import itertools
import random
import unittest

from helpers import (SINGLES, Bag, Unfriendly, all_servings, most, odd_values, random_table, random_tables, served,
                     subsets)
from neverregret.covers import (ServingPaper, cover_worth, greatest_cover, is_serving_paper, least_cover,
                                least_cover_with, least_covers, serving_paper, serving_paper_fault)
from neverregret.plain import left_stock
from neverregret.servings import most_by_ways
from neverregret.tables import Table, accepted, kinds_of_types

TABLE = Table(("l", "s"), (("any", (0, 1)), ("large", (0,)), ("small", (1,))))
CASE = (TABLE, (1, 1), (0, 1, 2))


def cases(many, seed):
    """Return small tables with a stock and a row each."""
    rng = random.Random(seed)
    found = []
    for table in random_tables(many, seed, 3, 4):
        stock = tuple(rng.randint(0, 2) for _ in table.kinds)
        length = rng.randint(0, 5) if table.types else 0
        found.append((table, stock, tuple(rng.randrange(len(table.types)) for _ in range(length))))
    return found


def worth_by_words(table, stock, row, lot):
    """Return the worth of a lot, word by word."""
    units = sum(units for kind, units in enumerate(stock) if any(kind in accepted(table, request) for request in lot))
    return sum(request not in lot for request in row) + units


class CoverTest(unittest.TestCase):
    def test_examples(self):
        self.assertEqual((0, 1, 2), least_cover(*CASE))
        self.assertEqual(((), (1,)), least_covers(TABLE, (1, 1), (1,)))

    def test_by_trying(self):
        for table, stock, row in cases(160, 350):
            number = most(table, stock, row)
            lots = subsets(range(len(table.types)))
            covers = []
            for lot in lots:
                worth = worth_by_words(table, stock, row, lot)
                self.assertEqual(worth, cover_worth(table, stock, row, lot))
                self.assertGreaterEqual(worth, number)
                covers += [lot] if worth == number else []
            self.assertEqual(tuple(sorted(covers)), least_covers(table, stock, row))
            self.assertEqual(set.intersection(*[set(lot) for lot in covers]), set(least_cover(table, stock, row)))
            self.assertEqual(set().union(*covers), set(greatest_cover(table, stock, row)))
            self.assertIn(least_cover(table, stock, row), covers)
            self.assertIn(greatest_cover(table, stock, row), covers)
            for one, other in itertools.product(covers, repeat=2):
                self.assertIn(tuple(sorted(set(one) & set(other))), covers)
                self.assertIn(tuple(sorted(set(one) | set(other))), covers)
            for lot in lots:
                wider = [set(cover) for cover in covers if set(lot) <= set(cover)]
                expected = tuple(sorted(set.intersection(*wider))) if wider else None
                self.assertEqual(expected, least_cover_with(table, stock, row, lot))

    def test_told_by_any_greatest_serving(self):
        rng = random.Random(351)
        for table, stock, row in cases(60, 352):
            number = most(table, stock, row)
            greatest = [serving for serving in all_servings(table, stock, row) if served(serving) == number]
            covers = least_covers(table, stock, row)
            for serving in rng.sample(greatest, min(4, len(greatest))):
                left = left_stock(stock, serving)
                for lot in subsets(range(len(table.types))):
                    kinds = kinds_of_types(table, lot)
                    refused = all(row[at] in lot for at, kind in enumerate(serving) if kind is None)
                    used = all(left[kind] == 0 for kind in kinds)
                    takers = all(row[at] in lot for at, kind in enumerate(serving) if kind in kinds)
                    self.assertEqual(lot in covers, refused and used and takers)

    def test_edges(self):
        none = Table(("a",), ())
        self.assertEqual((((),), (), (), 0), (least_covers(none, (3,), ()), least_cover(none, (3,), ()),
                                              greatest_cover(none, (3,), ()), cover_worth(none, (3,), (), ())))
        empty = Table(("a", "b"), (("p", ()), ("q", (0,))))
        self.assertEqual((((0,), (0, 1)), (0,), (0, 1)), (least_covers(empty, (0, 7), (0, 0)),
                                                          least_cover(empty, (0, 7), (0, 0)),
                                                          greatest_cover(empty, (0, 7), (0, 0))))
        # types that the row has not
        self.assertEqual(((), (0,)), (least_cover(empty, (1, 0), ()), greatest_cover(empty, (1, 0), ())))
        self.assertIsNone(least_cover_with(empty, (1, 0), (), (1,)))
        self.assertEqual((0,), least_cover_with(empty, (1, 0), (), (0,)))

    def test_large(self):
        rng = random.Random(353)
        for _ in range(20):
            table = random_table(rng, 8, 12)
            if not table.types:
                continue
            stock = tuple(rng.choice((0, 1, 20, 50, 400)) for _ in table.kinds)
            row = tuple(rng.randrange(len(table.types)) for _ in range(400))
            number = most_by_ways(table, stock, row)
            for lot in (least_cover(table, stock, row), greatest_cover(table, stock, row)):
                self.assertEqual(number, cover_worth(table, stock, row, lot))
            paper = serving_paper(table, stock, row)
            self.assertIsNone(serving_paper_fault(table, stock, row, paper))
        twelve = Table(tuple("abcdefgh"), tuple((name, (at % 8,)) for at, name in enumerate("klmnopqrstuv")))
        self.assertEqual(4096, len(least_covers(twelve, (0,) * 8, ())))
        self.assertEqual(400, cover_worth(twelve, (400,) * 8, (0,) * 400, (0,)))


class PaperTest(unittest.TestCase):
    def test_equality(self):
        paper = ServingPaper(serving=(0,), cover=(1,))
        self.assertEqual(((0,), (1,)), (paper.serving, paper.cover))
        self.assertTrue(paper == ServingPaper((0,), (1,)))
        self.assertTrue(ServingPaper(None, "x") == ServingPaper(None, "x"))
        for other in (ServingPaper((0,), (2,)), ServingPaper((1,), (1,)), None, ((0,), (1,)),
                      Bag(serving=(0,), cover=(1,))):
            self.assertTrue(paper != other)
            self.assertFalse(paper == other)

    def test_right_ones(self):
        for table, stock, row in cases(160, 360):
            paper = serving_paper(table, stock, row)
            self.assertIsNone(serving_paper_fault(table, stock, row, paper))
            self.assertIs(True, is_serving_paper(table, stock, row, paper))
            self.assertEqual(most(table, stock, row), served(paper.serving))

    def test_all_papers(self):
        for table, stock, row in cases(40, 361):
            number = most(table, stock, row)
            for serving in all_servings(table, stock, row)[::3]:
                for lot in subsets(range(len(table.types))):
                    worth = worth_by_words(table, stock, row, lot)
                    paper = ServingPaper(serving, lot)
                    self.assertEqual(None if worth == served(serving) else "worth",
                                     serving_paper_fault(table, stock, row, paper))
                    self.assertEqual(worth == number == served(serving), is_serving_paper(table, stock, row, paper))

    def test_faults_in_their_sequence(self):
        right = serving_paper(*CASE)
        for value in odd_values() + (ServingPaper, (right.serving, right.cover),
                                     Bag(serving=right.serving, cover=right.cover)):
            self.assertEqual("kind", serving_paper_fault(*CASE, value))
            self.assertIs(False, is_serving_paper(*CASE, value))
        for value in odd_values() + (list(right.serving), right.serving + (None,), (0, 0, 1), (0, 1, 1),
                                     (True, 0, None), (1, False, None)):
            for cover in (right.cover, None, Unfriendly()):
                self.assertEqual("serving", serving_paper_fault(*CASE, ServingPaper(value, cover)))
        for value in odd_values() + ([0, 1, 2], (0, 1, 2, 3), (2, 1, 0), (0, 0, 1), (0, True, 2), (-1, 0, 1)):
            self.assertEqual("cover", serving_paper_fault(*CASE, ServingPaper(right.serving, value)))
        for item in SINGLES:
            self.assertEqual("cover", serving_paper_fault(*CASE, ServingPaper(right.serving, (0, 1, item))))
            self.assertEqual("serving" if item is not None else None,
                             serving_paper_fault(*CASE, ServingPaper((1, 0, item), right.cover)))
        self.assertEqual("worth", serving_paper_fault(*CASE, ServingPaper((1, None, None), right.cover)))
        self.assertFalse(is_serving_paper(*CASE, ServingPaper(right.serving, ())))
        self.assertEqual("worth", serving_paper_fault(*CASE, ServingPaper(right.serving, ())))


if __name__ == "__main__":
    unittest.main()
