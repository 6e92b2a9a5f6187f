"""[76] Refusals that are regrets, [77] answers and their papers."""

import random
import unittest

from helpers import (SINGLES, Bag, Unfriendly, error_of, is_same, meaning_of, odd_values, random_table, random_tables,
                     crossing_cases)
from neverregret.answers import answer, answer_paper, is_answer_paper, is_regret, moving_answer
from neverregret.choices import kinds_at_hand, unbeaten_kinds
from neverregret.covers import ServingPaper, serving_paper
from neverregret.fullpapers import FullPaper, full_paper, paper_rest
from neverregret.houses import House, guest_row, guest_serving, house_after, is_deed, is_house, whole_stock
from neverregret.moveprices import RemakePaper
from neverregret.stocks import bounds_after
from neverregret.tables import Table, kinds_of_types, types_without
from rooms import full_house, random_house, serving_deeds

TABLE = Table(("l", "s"), (("any", (0, 1)), ("large", (0,)), ("small", (1,))))
MANY = Table(("a", "b"), (("t", (0, 1)), ("u", (0,))))


def cases(many, seed, most_guests=3):
    """Return small tables with a house and a request that can come each."""
    rng = random.Random(seed)
    tables = random_tables(many, seed, 3, 3) + [table for table, _, _ in crossing_cases(many, seed)]
    found = []
    for table in tables:
        house = random_house(rng, table, most_guests)
        found.extend((table, house, request) for request, bound in enumerate(house.bounds) if bound != 0)
    return found


def fewest_moves(table, house, request):
    """Return the least number of moves with which a request can be served, or None."""
    return min((len(deed[3]) for deed in serving_deeds(table, house, request)), default=None)


class AnswerTest(unittest.TestCase):
    def test_by_hand(self):
        house = House((0, 1), (None, None, None), ((0, 0, 0),))
        self.assertEqual(("serve", 0, 1, ()), answer(TABLE, house, 0))
        self.assertEqual(("refuse", 1), answer(TABLE, house, 1))
        self.assertEqual(("serve", 1, 0, ((0, 1),)), moving_answer(TABLE, house, 1))
        self.assertEqual(("serve", 2, 1, ()), moving_answer(TABLE, house, 2))
        self.assertIs(True, is_regret(TABLE, house, 1))
        full = House((0, 0), (None, None, None), ((0, 0, 0), (7, 2, 1)))
        self.assertEqual([("refuse", 0), ("refuse", 0)], [answer(TABLE, full, 0), moving_answer(TABLE, full, 0)])
        self.assertIs(False, is_regret(TABLE, full, 0))

    def test_bounds(self):
        # what can still come decides which kind goes: a large one, a small one, or both
        self.assertEqual(("serve", 0, 1, ()), answer(TABLE, House((1, 1), (1, 1, 0), ()), 0))
        self.assertEqual(("serve", 0, 0, ()), answer(TABLE, House((1, 1), (1, 0, 1), ()), 0))
        self.assertIn(answer(TABLE, House((1, 1), (1, 1, 1), ()), 0), (("serve", 0, 0, ()), ("serve", 0, 1, ())))
        self.assertEqual(("serve", 0, 1, ()), answer(TABLE, House((2, 3), (1, None, 2), ()), 0))
        # the last request of its type is served as well
        self.assertEqual(("serve", 1, 0, ()), answer(TABLE, House((1, 1), (0, 1, 0), ()), 1))

    def test_answers(self):
        refused = moved = served = 0
        for table, house, request in cases(220, 771):
            found = answer(table, house, request)
            moving = moving_answer(table, house, request)
            kinds = kinds_at_hand(table, house.stock, request)
            behind = bounds_after(house.bounds, request)
            self.assertTrue(is_deed(table, house, found) and is_deed(table, house, moving))
            if kinds:
                served += 1
                for deed in (found, moving):
                    self.assertEqual(("serve", request, ()), (deed[0], deed[1], deed[3]))
                    self.assertIn(deed[2], unbeaten_kinds(table, house.stock, behind, request))
                continue
            self.assertTrue(is_same(("refuse", request), found))
            least = fewest_moves(table, house, request)
            # it refuses exactly if the refusal is no regret
            self.assertIs(moving[0] == "serve", is_regret(table, house, request))
            if least is None:
                refused += 1
                self.assertTrue(is_same(("refuse", request), moving))
            else:
                moved += 1
                self.assertEqual(("serve", request, least), (moving[0], moving[1], len(moving[3])))
                self.assertTrue(is_house(table, house_after(table, house, moving)))
        self.assertGreater(min(refused, moved, served), 25)

    def test_is_regret_by_trying(self):
        many = [0, 0]
        for table, house, request in cases(150, 772, 4):
            row = guest_row(house) + (request,)
            expected = meaning_of(table)(whole_stock(house), row) == len(row)
            many[expected] += 1
            self.assertIs(expected, is_regret(table, house, request))
        self.assertGreater(min(many), 30)

    def test_errors_in_their_sequence(self):
        for function in (answer, moving_answer):
            for guests in (0, 399, 400):
                house = full_house(guests, MANY, (1, 1), (0, None))
                self.assertEqual(("Refused", "bound"), error_of(function, MANY, house, 0))
            self.assertEqual(("Refused", "guests"), error_of(function, MANY, full_house(400, MANY, (1, 1), (None, 1)), 1))
            self.assertEqual(("Refused", "guests"), error_of(function, MANY, full_house(400, MANY, (0, 0), (1, None)), 0))
            # ahead of no kind at hand
            self.assertEqual(("Refused", "bound"), error_of(function, MANY, House((0, 0), (0, 0), ()), 0))

    def test_399_guests(self):
        house = full_house(399, MANY, (1, 0), (None, 1))
        self.assertEqual(("serve", 1, 0, ()), answer(MANY, house, 1))
        house = full_house(399, MANY, (0, 1), (None, 1))
        self.assertEqual(("refuse", 1), answer(MANY, house, 1))
        deed = moving_answer(MANY, house, 1)
        self.assertEqual(("serve", 1, 0, 1), (deed[0], deed[1], deed[2], len(deed[3])))
        self.assertTrue(is_deed(MANY, house, deed))
        self.assertIs(True, is_regret(MANY, house, 1))
        self.assertIs(False, is_regret(MANY, full_house(399, MANY, (0, 0), (None, 1)), 1))
        paper = answer_paper(MANY, house, deed)
        self.assertIs(True, is_answer_paper(MANY, house, deed, paper))

    def test_chain_of_moves(self):
        chain = Table(tuple("abcd"), (("p", (0, 1)), ("q", (1, 2)), ("r", (2, 3)), ("s", (0,))))
        house = House((0, 0, 0, 1), (None,) * 4, ((2, 0, 0), (5, 1, 1), (6, 2, 2)))
        self.assertEqual(("serve", 3, 0, ((2, 1), (5, 2), (6, 3))), moving_answer(chain, house, 3))
        shorter = House((0, 1, 0, 1), (None,) * 4, ((2, 0, 0), (5, 1, 2), (6, 2, 2)))
        self.assertEqual(("serve", 3, 0, ((2, 1),)), moving_answer(chain, shorter, 3))

    def test_edges(self):
        empty = Table(("a",), (("p", ()),))
        house = House((5,), (None,), ())
        self.assertEqual([("refuse", 0)] * 2, [answer(empty, house, 0), moving_answer(empty, house, 0)])
        self.assertIs(False, is_regret(empty, house, 0))
        paper = answer_paper(empty, house, ("refuse", 0))
        self.assertTrue(is_answer_paper(empty, house, ("refuse", 0), paper))


class PaperTest(unittest.TestCase):
    def deeds(self, table, house, request):
        """Return all deeds that serve or refuse a request, each with whether it has a right paper."""
        least = fewest_moves(table, house, request)
        unbeaten = unbeaten_kinds(table, house.stock, bounds_after(house.bounds, request), request)
        found = [(("refuse", request), True)]
        for deed in serving_deeds(table, house, request):
            found.append((deed, len(deed[3]) == least if deed[3] else deed[2] in unbeaten))
        return found

    def test_there_exactly_for(self):
        """A right paper is there for a refusal, an unbeaten kind, and moves of as few guests as possible."""
        many = {"refuse": [0, 0], "serve": [0, 0], "moves": [0, 0]}
        for table, house, request in cases(150, 773):
            for deed, expected in self.deeds(table, house, request):
                paper = answer_paper(table, house, deed)
                many["moves" if deed[-1] and deed[0] == "serve" else deed[0]][expected] += 1
                if expected:
                    self.assertIs(True, is_answer_paper(table, house, deed, paper))
                    self.check_kind_of_paper(table, house, deed, paper)
                else:
                    self.assertIsNone(paper)
        self.assertGreater(min(many["serve"] + many["moves"] + many["refuse"][1:]), 15)

    def check_kind_of_paper(self, table, house, deed, paper):
        if deed[0] == "refuse":
            self.assertIsInstance(paper, ServingPaper)
        elif deed[3]:
            self.assertIsInstance(paper, RemakePaper)
            news = dict(deed[3])
            kinds = tuple(news.get(number, kind) for number, _, kind in house.guests) + (deed[2],)
            self.assertEqual(kinds, paper.remake)
        else:
            kinds = kinds_at_hand(table, house.stock, deed[1])
            self.assertIsInstance(paper, tuple)
            self.assertEqual([types_without(table, kind) for kind in kinds], [part.types for part in paper])

    def test_papers_of_other_deeds(self):
        """What is right for one deed is right for another one only if it shows the same."""
        for table, house, request in cases(60, 774, 2):
            deeds = self.deeds(table, house, request)
            papers = [(deed, answer_paper(table, house, deed)) for deed, expected in deeds if expected]
            for deed, expected in deeds:
                for other, paper in papers:
                    same = deed == other or (expected and deed[0] == other[0] == "serve" and deed[3] == other[3] == ())
                    self.assertIs(same, is_answer_paper(table, house, deed, paper))

    def test_refusals(self):
        house = House((0, 1), (None, None, None), ((0, 0, 0),))
        deed = ("refuse", 1)
        paper = answer_paper(TABLE, house, deed)
        self.assertIs(True, is_answer_paper(TABLE, house, deed, paper))
        # the whole stock, and the guests with the request behind them
        self.assertIs(True, is_answer_paper(TABLE, house, deed, serving_paper(TABLE, (1, 1), (0, 1))))
        for stock, row in (((0, 1), (0, 1)), ((1, 1), (1, 0)), ((1, 1), (0,)), ((1, 1), (1,)), ((2, 1), (0, 1))):
            paper = serving_paper(TABLE, stock, row)
            right = stock == (1, 1) and row == (0, 1)
            self.assertIs(right, is_answer_paper(TABLE, house, deed, paper))
        for value in odd_values() + (ServingPaper, ServingPaper((1, 0), None), ServingPaper([1, 0], ()),
                                     Bag(serving=(1, 0), cover=()), (), ServingPaper((0, None), ())):
            self.assertIs(False, is_answer_paper(TABLE, house, deed, value))

    def test_servings_without_moves(self):
        house = House((2, 1), (2, 2, 1), ((3, 0, 1),))
        deed = answer(TABLE, house, 0)
        paper = answer_paper(TABLE, house, deed)
        self.assertEqual(2, len(paper))
        self.assertIs(True, is_answer_paper(TABLE, house, deed, paper))
        behind = (1, 2, 1)
        for kind, part in enumerate(paper):
            self.assertEqual(types_without(TABLE, kind), part.types)
        again = tuple(full_paper(TABLE, (2, 1), behind, types_without(TABLE, kind)) for kind in (0, 1))
        self.assertIs(True, is_answer_paper(TABLE, house, deed, again))
        other = ("serve", 0, 1 - deed[2], ())
        self.assertIs(answer_paper(TABLE, house, other) is not None, is_answer_paper(TABLE, house, other, paper))
        for value in odd_values() + (list(paper), paper[:1], paper + paper[:1], paper[::-1], (paper[0],) * 2, paper[0], (),
                                     (paper[0], Bag(**vars(paper[1]))), (paper[0], Unfriendly()),
                                     (paper[0], FullPaper(paper[1].types, paper[1].gap, None)),
                                     (paper[0], FullPaper(list(paper[1].types), paper[1].gap, paper[1].taking)),
                                     (paper[0], full_paper(TABLE, (2, 1), behind, (0, 1, 2))),
                                     serving_paper(TABLE, (2, 1), (0,))):
            self.assertIs(False, is_answer_paper(TABLE, house, deed, value))
        for item in SINGLES:
            self.assertFalse(is_answer_paper(TABLE, house, deed, (paper[0], item)))

    def test_servings_with_moves(self):
        house = House((0, 1), (None, None, None), ((4, 0, 0),))
        deed = moving_answer(TABLE, house, 1)
        self.assertEqual(("serve", 1, 0, ((4, 1),)), deed)
        paper = answer_paper(TABLE, house, deed)
        self.assertIs(True, is_answer_paper(TABLE, house, deed, paper))
        self.assertEqual((1, 0), paper.remake)
        for value in odd_values() + (RemakePaper, Bag(**vars(paper)), (paper,), (), paper.remake,
                                     RemakePaper([1, 0], paper.prices), RemakePaper((1, 0), None),
                                     RemakePaper((True, 0), paper.prices), RemakePaper((0, None), (0, 0)),
                                     RemakePaper((1, 0), (0, 0)), serving_paper(TABLE, (1, 1), (0, 1))):
            self.assertIs(False, is_answer_paper(TABLE, house, deed, value))
        self.assertTrue(is_answer_paper(TABLE, house, deed, RemakePaper((1, 0), (1, 0))))

    def test_other_remakes_of_as_few_moves(self):
        table = Table(("l", "m", "s"), (("any", (0, 1, 2)), ("large", (0,))))
        house = House((0, 1, 1), (None, None), ((1, 0, 0), (2, 0, 0)))
        for number in (1, 2):
            for kind in (1, 2):
                deed = ("serve", 1, 0, ((number, kind),))
                paper = answer_paper(table, house, deed)
                self.assertTrue(is_answer_paper(table, house, deed, paper))
                for other_number in (1, 2):
                    for other_kind in (1, 2):
                        other = ("serve", 1, 0, ((other_number, other_kind),))
                        self.assertIs(deed == other, is_answer_paper(table, house, other, paper))
        both = ("serve", 1, 0, ((1, 1), (2, 2)))
        self.assertTrue(is_deed(table, house, both))
        self.assertIsNone(answer_paper(table, house, both))

    def test_moves_though_a_kind_is_at_hand(self):
        house = House((1, 1), (None, None, None), ((4, 0, 0),))
        deed = ("serve", 1, 0, ((4, 1),))
        self.assertTrue(is_deed(TABLE, house, deed))
        self.assertIsNone(answer_paper(TABLE, house, deed))
        for prices in ((0, 0), (1, 0), (0, 1), (1, 1)):
            self.assertFalse(is_answer_paper(TABLE, house, deed, RemakePaper((1, 0), prices)))

    def test_large(self):
        rng = random.Random(775)
        moved = 0
        for _ in range(25):
            table = random_table(rng, 8, 12)
            if not any(lot for _, lot in table.types):
                continue
            stock = tuple(rng.choice((0, 0, 1, 100)) for _ in table.kinds)
            bounds = tuple(rng.choice((None, 1, 400)) for _ in table.types)
            house = full_house(rng.choice((120, 399)), table, stock, bounds)
            for request in range(len(table.types)):
                for deed in (answer(table, house, request), moving_answer(table, house, request)):
                    self.assertTrue(is_deed(table, house, deed))
                    self.assertTrue(is_answer_paper(table, house, deed, answer_paper(table, house, deed)))
                    moved += deed[0] == "serve" and deed[3] != ()
                    # guests keep what they accept
                    kinds = guest_serving(house_after(table, house, deed))
                    self.assertEqual(len(house.guests) + (deed[0] == "serve"), len(kinds))
        self.assertGreater(moved, 3)

    def test_rests_tell_who_beats(self):
        for table, house, request in cases(60, 776, 0):
            bounds = bounds_after(house.bounds, request)
            kinds = kinds_at_hand(table, house.stock, request)
            for kind in kinds:
                paper = answer_paper(table, house, ("serve", request, kind, ()))
                if paper is not None:
                    rests = {other: kinds_of_types(table, paper_rest(table, part)) for other, part in zip(kinds, paper)}
                    for other in kinds:
                        self.assertFalse(other not in rests[kind] and kind in rests[other])
                self.assertEqual(kind in unbeaten_kinds(table, house.stock, bounds, request), paper is not None)


if __name__ == "__main__":
    unittest.main()
