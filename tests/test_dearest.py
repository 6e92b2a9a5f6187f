"""[38] Greatest servings with the greatest sum of worths, and their papers."""

import random
import unittest

from helpers import SINGLES, Bag, Unfriendly, all_servings, odd_values, random_table, random_tables, served, subsets
from neverregret.covers import ServingPaper, cover_worth
from neverregret.dearest import DearestPaper, dearest_paper, dearest_serving, is_dearest_paper
from neverregret.plain import is_serving
from neverregret.servings import greatest_serving, most_by_ways
from neverregret.tables import Table

TABLE = Table(("l", "s"), (("any", (0, 1)), ("large", (0,)), ("small", (1,))))
CASE = (TABLE, (1, 1), (0, 1, 2, 1), (3, 0, 7, 7))


def sum_of(serving, worths):
    """Return the sum of the worths of the places served."""
    return sum(worth for kind, worth in zip(serving, worths) if kind is not None)


def cases(many, seed, kinds=3, types=3, length=5):
    """Return small tables with a stock, a row and worths each."""
    rng = random.Random(seed)
    found = []
    for table in random_tables(many, seed, kinds, types):
        stock = tuple(rng.choice((0, 1, 1, 2)) for _ in table.kinds)
        row = tuple(rng.randrange(len(table.types)) for _ in range(rng.randint(0, length) if table.types else 0))
        found.append((table, stock, row, tuple(rng.choice((0, 0, 1, 2, 2, 9)) for _ in row)))
    return found


class DearestTest(unittest.TestCase):
    def test_by_hand(self):
        self.assertEqual((None, None, 1, 0), dearest_serving(*CASE))
        self.assertEqual((1, None, None, 0), dearest_serving(TABLE, (1, 1), (0, 1, 2, 1), (3, 0, 2, 7)))
        # more places are served first of all, even such as are worth nothing
        self.assertEqual((1, 0), dearest_serving(TABLE, (1, 1), (0, 1), (9, 0)))
        self.assertEqual((0, 1), dearest_serving(TABLE, (1, 1), (1, 2), (0, 0)))
        self.assertEqual(10 ** 40, sum_of(dearest_serving(TABLE, (1, 0), (0, 1), (5, 10 ** 40)), (5, 10 ** 40)))

    def test_edges(self):
        self.assertEqual((), dearest_serving(TABLE, (1, 1), (), ()))
        self.assertEqual((None,), dearest_serving(TABLE, (0, 0), (0,), (5,)))
        paper = dearest_paper(TABLE, (1, 1), (), ())
        self.assertEqual(((), ()), (paper.serving, paper.covers))
        self.assertIs(True, is_dearest_paper(TABLE, (1, 1), (), (), paper))
        # worths of 0 alone need no cover, though they may stand for any serving
        self.assertIs(True, is_dearest_paper(TABLE, (1, 1), (0, 1), (0, 0), DearestPaper((None, None), ())))
        self.assertIs(False, is_dearest_paper(TABLE, (1, 1), (0, 1), (0, 0), DearestPaper((None, None), ((),))))
        empty = Table(("a",), (("p", ()),))
        self.assertIs(True, is_dearest_paper(empty, (5,), (0, 0), (1, 1), dearest_paper(empty, (5,), (0, 0), (1, 1))))
        self.assertEqual(((0,),), dearest_paper(empty, (5,), (0, 0), (1, 1)).covers)

    def test_by_trying(self):
        unlike = 0
        for case in cases(300, 380) + cases(60, 381, 3, 4, 6):
            table, stock, row, worths = case
            servings = all_servings(table, stock, row)
            number = max(map(served, servings))
            best = max(sum_of(serving, worths) for serving in servings if served(serving) == number)
            found = dearest_serving(*case)
            self.assertIn(found, servings)
            self.assertEqual((number, best), (served(found), sum_of(found, worths)))
            # no serving at all has a greater sum
            self.assertEqual(best, max(sum_of(serving, worths) for serving in servings))
            paper = dearest_paper(*case)
            self.assertIs(True, is_dearest_paper(*case, paper))
            self.assertEqual(best, sum_of(paper.serving, worths))
            unlike += best > sum_of(greatest_serving(table, stock, row), worths)
        self.assertGreater(unlike, 20)

    def test_all_papers(self):
        for case in cases(70, 382, 2, 2, 4):
            table, stock, row, worths = case
            lots = subsets(range(len(table.types)))
            servings = all_servings(table, stock, row)
            best = max(sum_of(serving, worths) for serving in servings)
            leasts = sorted({worth for worth in worths if worth}, reverse=True)
            for serving in servings:
                covers = [()]
                for least in leasts:
                    part = tuple(request for request, worth in zip(row, worths) if worth >= least)
                    many = sum(kind is not None and worth >= least for kind, worth in zip(serving, worths))
                    rights = [lot for lot in lots if cover_worth(table, stock, part, lot) == many]
                    for lot in lots:
                        tried = DearestPaper(serving, covers[0] + (lot,))
                        if len(covers[0]) == len(leasts) - 1:
                            self.assertIs(lot in rights, is_dearest_paper(*case, tried))
                    covers = [cover + (lot,) for cover in covers[:1] for lot in rights[:1]]
                    if not covers:
                        break
                # there are covers exactly for the servings with the greatest sum
                self.assertEqual(sum_of(serving, worths) == best, bool(covers))

    def test_sequence_of_covers(self):
        right = dearest_paper(*CASE)
        self.assertEqual(2, len(right.covers))
        self.assertTrue(is_dearest_paper(*CASE, right))
        one = (TABLE, (1, 1), (1, 1, 0, 0), (5, 5, 3, 3))
        serving = dearest_serving(*one)
        self.assertTrue(is_dearest_paper(*one, DearestPaper(serving, ((1,), (0, 1)))))
        self.assertFalse(is_dearest_paper(*one, DearestPaper(serving, ((0, 1), (1,)))))

    def test_equality(self):
        paper = DearestPaper(serving=(0,), covers=((1,),))
        self.assertEqual(((0,), ((1,),)), (paper.serving, paper.covers))
        self.assertTrue(paper == DearestPaper((0,), ((1,),)))
        self.assertTrue(DearestPaper(None, "x") == DearestPaper(None, "x"))
        for other in (DearestPaper((0,), ()), DearestPaper((1,), ((1,),)), None, ((0,), ((1,),)),
                      Bag(serving=(0,), covers=((1,),)), ServingPaper((0,), ((1,),))):
            self.assertTrue(paper != other)
            self.assertFalse(paper == other)

    def test_other_values(self):
        right = dearest_paper(*CASE)
        serving, covers = right.serving, right.covers
        for value in odd_values() + (DearestPaper, Bag(serving=serving, covers=covers), (serving, covers),
                                     ServingPaper(serving, covers)):
            self.assertIs(False, is_dearest_paper(*CASE, value))
        for value in odd_values() + (list(serving), serving + (None,), serving[:3], (None, None, True, 0),
                                     (None, None, 1, False), (0, None, 1, 0), (None, None, 1, None), (None,) * 4):
            self.assertFalse(is_dearest_paper(*CASE, DearestPaper(value, covers)))
        for value in odd_values() + (list(covers), covers[:1], covers + covers[:1], covers[0], ((), ()),
                                     (list(covers[0]), covers[1]), ((1, 0), covers[1])):
            self.assertFalse(is_dearest_paper(*CASE, DearestPaper(serving, value)))
        for item in SINGLES + (Unfriendly(), (True,), (3,), (0, 0), (2, 1)):
            self.assertFalse(is_dearest_paper(*CASE, DearestPaper(serving, (item, covers[1]))))
            self.assertFalse(is_dearest_paper(*CASE, DearestPaper(serving, (covers[0], item))))
            self.assertFalse(is_dearest_paper(*CASE, DearestPaper(serving, ((item,), covers[1]))))

    def test_large(self):
        rng = random.Random(383)
        for _ in range(10):
            table = random_table(rng, 8, 12)
            if not table.types:
                continue
            stock = tuple(rng.choice((0, 1, 20, 50, 400)) for _ in table.kinds)
            row = tuple(rng.randrange(len(table.types)) for _ in range(400))
            worths = tuple(rng.choice((0, 5, rng.randrange(1000))) for _ in row)
            serving = dearest_serving(table, stock, row, worths)
            self.assertTrue(is_serving(table, stock, row, serving))
            self.assertEqual(most_by_ways(table, stock, row), served(serving))
            paper = dearest_paper(table, stock, row, worths)
            self.assertTrue(is_dearest_paper(table, stock, row, worths, paper))
            self.assertEqual(sum_of(serving, worths), sum_of(paper.serving, worths))


if __name__ == "__main__":
    unittest.main()
