"""[88] Right pairs and the judge of answers, and [89] statements."""

import random
import unittest

from helpers import (SINGLES, Bag, Unfriendly, crossing_cases, error_of, has_crossing, meaning_of, odd_values,
                     random_tables)
from neverregret.answers import answer_paper, is_regret, moving_answer
from neverregret.choicepapers import ChoicePaper, NoChoicePaper, choice_paper
from neverregret.choices import best_kinds, kinds_at_hand, unbeaten_kinds
from neverregret.claims import is_so, not_so, run_fault
from neverregret.court import Crossing, court, crossings_of
from neverregret.covers import ServingPaper, serving_paper
from neverregret.fullpapers import FullPaper, full_paper
from neverregret.houses import House, house_after
from neverregret.moveprices import RemakePaper
from neverregret.reader import read_table
from neverregret.repairs import RepairPaper, cheapest_repair, repair_paper
from neverregret.runs import run_commands, run_with_papers
from neverregret.safepapers import SafePaper, comparison_paper
from neverregret.servings import grown_serving
from neverregret.stocks import bounds_after
from neverregret.striking import is_repair, items_for
from neverregret.tables import Table, types_without
from rooms import full_house, random_house, serving_deeds
from test_runs import CROSS, SEVENTEEN, TABLE, cases, random_commands

FREE = (None, None, None)
ALL = (("court",), ("come", 0), ("moving", 1), ("safe", 0, 1), ("most", (1, 2)), ("choice", 0), ("leave", 0),
       ("bounds", (3, 1, None)), ("safe", 0, 1), ("choice", 2), ("repair", "types"), ("leave", 7))


def with_item(answers, at, item):
    """Return answers with another item at a place."""
    return answers[:at] + (item,) + answers[at + 1:]


class RightRunTest(unittest.TestCase):
    def test_runs_are_right(self):
        for table, stock, bounds, commands in cases(110, 885) + [(CROSS, (1, 1), FREE, ALL)]:
            answers = run_with_papers(table, stock, bounds, commands)
            self.assertIsNone(run_fault(table, stock, bounds, commands, answers))
            self.assertIs(True, is_so(("run", table, stock, bounds, commands, answers)))

    def test_answers_left_out_doubled_exchanged_too_many(self):
        answers = run_with_papers(CROSS, (1, 1), FREE, ALL)
        many = len(ALL)
        for length in range(many):
            self.assertEqual(length, run_fault(CROSS, (1, 1), FREE, ALL, answers[:length]))
        for at in range(many):
            fault = run_fault(CROSS, (1, 1), FREE, ALL, answers[:at] + answers[at + 1:])
            self.assertTrue(fault is not None and fault >= at)
        self.assertEqual(many, run_fault(CROSS, (1, 1), FREE, ALL, answers + answers[-1:]))
        self.assertEqual(many, run_fault(CROSS, (1, 1), FREE, ALL, answers + (None,)))
        self.assertEqual(many, run_fault(CROSS, (1, 1), FREE, ALL, answers * 2))
        for at in range(many - 1):
            exchanged = answers[:at] + (answers[at + 1], answers[at]) + answers[at + 2:]
            self.assertEqual(at, run_fault(CROSS, (1, 1), FREE, ALL, exchanged))
            doubled = answers[:at] + (answers[at],) + answers[at:]
            self.assertEqual(at + 1, run_fault(CROSS, (1, 1), FREE, ALL, doubled))
        self.assertIsNone(run_fault(CROSS, (1, 1), FREE, (), ()))
        self.assertEqual(0, run_fault(CROSS, (1, 1), FREE, (), (None,)))

    def test_no_tuple(self):
        answers = run_with_papers(CROSS, (1, 1), FREE, ALL)
        for value in odd_values() + (list(answers), dict(enumerate(answers)), None, run_commands(CROSS, (1, 1), FREE, ALL)):
            self.assertEqual(0, run_fault(CROSS, (1, 1), FREE, ALL, value))
        for value in (None, [], {}, "", 0, False):
            self.assertEqual(0, run_fault(CROSS, (1, 1), FREE, (), value))

    def test_items_of_other_kinds(self):
        answers = run_with_papers(CROSS, (1, 1), FREE, ALL)
        for at, (result, paper) in enumerate(answers):
            wrong = odd_values() + ((result,), (result, paper, None), [result, paper], result, paper, (paper, result),
                                    (list(result), paper), (result[:-1], paper), (result + (None,), paper),
                                    (result, Unfriendly()), (Unfriendly(), paper), (result, ()))
            wrong += tuple((item, paper) for item in SINGLES)
            wrong += tuple((result, item) for item in SINGLES if paper is not None or item is not None)
            wrong += tuple((result[:1] + (item,), paper) for item in SINGLES)
            for value in wrong:
                self.assertEqual(at, run_fault(CROSS, (1, 1), FREE, ALL, with_item(answers, at, value)), (at, value))

    def test_bools_are_no_integers(self):
        for commands, at, result in (
                ((("come", 1),), 0, ("did", ("serve", True, 0, ()))), ((("come", 1),), 0, ("did", ("serve", 1, False, ()))),
                ((("come", 0), ("leave", 0)), 1, ("did", ("leave", False))),
                ((("bounds", (1, 0, None)),), 0, ("did", ("bounds", (True, 0, None)))),
                ((("bounds", (1, 0, None)),), 0, ("did", ("bounds", (1, 0.0, None)))),
                ((("most", (0,)),), 0, ("most", True)), ((("most", ()),), 0, ("most", 0.0)),
                ((("court",),), 0, ("crossing", (False, True), (0, 1, 2))),
                ((("court",),), 0, ("crossing", (0, 1), (0, True, 2))),
                ((("choice", 1),), 0, ("best", False)), ((("repair", "kinds"),), 0, ("repair", "kinds", (False,)))):
            answers = run_with_papers(CROSS, (1, 1), FREE, commands)
            self.assertIsNone(run_fault(CROSS, (1, 1), FREE, commands, answers))
            changed = with_item(answers, at, (result, answers[at][1]))
            self.assertEqual(at, run_fault(CROSS, (1, 1), FREE, commands, changed))

    def test_other_runs(self):
        """What is right for one stock, bounds or house need not be so for another one."""
        answers = run_with_papers(CROSS, (1, 1), FREE, (("most", (1, 1)),))
        self.assertEqual(0, run_fault(CROSS, (2, 1), FREE, (("most", (1, 1)),), answers))
        self.assertEqual(0, run_fault(CROSS, (1, 1), FREE, (("most", (1, 2)),), answers))
        commands = (("safe", 0, 1),)
        answers = run_with_papers(CROSS, (2, 2), FREE, commands)
        self.assertEqual(("worse",), answers[0][0])
        self.assertEqual(0, run_fault(CROSS, (2, 2), (None, 1, 0), commands, answers))
        self.assertEqual(0, run_fault(CROSS, (2, 2), FREE, (("safe", 1, 0),), answers))


class RightPairTest(unittest.TestCase):
    def check(self, expected, house, command, result, paper, table=CROSS):
        """Check whether a pair is right in a house, as a statement, and as a run if the house has no guests."""
        self.assertIs(expected, is_so(("pair", table, house, command, result, paper)), (command, result))
        if not house.guests:
            fault = run_fault(table, house.stock, house.bounds, (command,), ((result, paper),))
            self.assertEqual(None if expected else 0, fault)

    def test_all_crossings_are_right(self):
        table = read_table("p: a b c\nq: a\nr: b\ns: b c\nt: c")
        house = House((1, 1, 1), (None,) * 5, ())
        self.assertGreater(len(crossings_of(table)), 3)
        for crossing in crossings_of(table):
            turned = Crossing(crossing.kinds[::-1], (crossing.types[0], crossing.types[2], crossing.types[1]))
            for paper in (crossing, turned):
                self.check(True, house, ("court",), ("crossing", paper.kinds, paper.types), paper, table)
            self.check(False, house, ("court",), ("crossing", crossing.kinds, crossing.types), turned, table)
            self.check(False, house, ("court",), ("crossing", crossing.types, crossing.kinds), crossing, table)
            self.check(False, house, ("court",), ("forest",), crossing, table)
            self.check(False, house, ("court",), ("crossing",), crossing, table)
        self.check(False, house, ("court",), ("crossing", (0, 1), (0, 1, 1)), Crossing((0, 1), (0, 1, 1)), table)
        forest = court(TABLE)
        house = House((1, 1), (None, None), ())
        self.check(True, house, ("court",), ("forest",), forest, TABLE)
        self.check(False, house, ("court",), ("crossing", (0, 1), (0, 1, 0)), forest, TABLE)
        self.check(False, house, ("court",), ("forest",), None, TABLE)

    def test_most(self):
        house = House((1, 1), FREE, ())
        command = ("most", (0, 1, 1))
        right = serving_paper(CROSS, (1, 1), (0, 1, 1))
        self.check(True, house, command, ("most", 2), right)
        other = ServingPaper((1, None, 0), right.cover)
        self.check(True, house, command, ("most", 2), other)
        for result, paper in ((("most", 1), right), (("most", 3), right), (("least", 2), right), (("most", 2), None),
                              (("most", 1), ServingPaper((0, None, None), right.cover)), (("most", "2"), right)):
            self.check(False, house, command, result, paper)
        # the units left, not the whole stock
        guests = House((0, 1), FREE, ((0, 0, 0),))
        self.check(False, guests, command, ("most", 2), right)
        self.check(True, guests, command, ("most", 1), serving_paper(CROSS, (0, 1), (0, 1, 1)))

    def test_safe(self):
        for house in (House((2, 1), (0, 1, 1), ()), House((2, 1), (0, 1, 1), ((3, 0, 0),))):
            safe = comparison_paper(CROSS, (2, 1), (0, 1, 1), 0, 1)
            worse = comparison_paper(CROSS, (2, 1), (0, 1, 1), 1, 0)
            self.check(True, house, ("safe", 0, 1), ("safe",), safe)
            self.check(True, house, ("safe", 1, 0), ("worse",), worse)
            for command, result, paper in ((("safe", 0, 1), ("worse",), safe), (("safe", 1, 0), ("safe",), worse),
                                           (("safe", 1, 0), ("safe",), safe), (("safe", 0, 1), ("worse",), worse),
                                           (("safe", 0, 1), ("safe",), worse), (("safe", 0, 0), ("safe",), safe),
                                           (("safe", 1, 1), ("safe",), safe), (("safe", 0, 1), ("refused", "unit"), None),
                                           (("safe", 0, 1), ("safe", 0), safe), (("safe", 0, 1), ("safe",), None),
                                           (("safe", 0, 1), (None,), None), (("safe", 0, 1), (None,), safe)):
                self.check(False, house, command, result, paper)
        lacking = House((0, 1), (0, 1, 1), ())
        for one, other in ((0, 1), (1, 0), (0, 0)):
            self.check(True, lacking, ("safe", one, other), ("refused", "unit"), None)
            self.check(False, lacking, ("safe", one, other), ("refused", "kind"), None)
            self.check(False, lacking, ("safe", one, other), ("refused", "unit"), ())
            self.check(False, lacking, ("safe", one, other), ("safe",), None)

    def test_choices(self):
        house = House((2, 1), (1, 1, 1), ())
        best = choice_paper(CROSS, (2, 1), (0, 1, 1), 0)
        self.check(True, house, ("choice", 0), ("best", 0), best)
        for result, paper in ((("best", 1), best), (("none",), best), (("best",), best), (("best", 0), None),
                              (("best", 0), ChoicePaper(0, 1, best.papers)), (("best", 1), ChoicePaper(0, 1, best.papers)),
                              (("best", 0), choice_paper(CROSS, (2, 1), (0, 1, 1), 1)), (("refused", "unit"), None),
                              (("refused", "bound"), None), (("best", 0), NoChoicePaper(0, best.papers))):
            self.check(False, house, ("choice", 0), result, paper)
        none = House((1, 1), (1, 1, 1), ())
        paper = choice_paper(CROSS, (1, 1), (0, 1, 1), 0)
        self.check(True, none, ("choice", 0), ("none",), paper)
        self.check(False, none, ("choice", 0), ("none", 0), paper)
        self.check(False, none, ("choice", 0), ("best", 0), paper)
        self.check(False, none, ("choice", 1), ("none",), paper)
        twice = Table(("l", "s"), (("any", (0, 1)), ("both", (0, 1)), ("large", (0,)), ("small", (1,))))
        house = House((1, 1), (1, 1, 1, 1), ())
        for request in (0, 1):
            paper = choice_paper(twice, (1, 1), (0, 0, 1, 1), request)
            for other in (0, 1):
                self.check(request == other, house, ("choice", other), ("none",), paper, twice)
        # of several best kinds each is right
        free = House((1, 1), (None, 0, 0), ())
        for kind in (0, 1):
            paper = ChoicePaper(0, kind, (comparison_paper(CROSS, (1, 1), (None, 0, 0), kind, 1 - kind),))
            self.check(True, free, ("choice", 0), ("best", kind), paper)
            self.check(False, free, ("choice", 0), ("best", 1 - kind), paper)
        # a bound of 0 stands ahead of no kind at hand
        for stock, bounds, word in (((0, 0), (0, 0, 0), "bound"), ((1, 1), (0, 1, 1), "bound"), ((0, 0), FREE, "unit")):
            for told in ("bound", "unit", "guests"):
                self.check(told == word, House(stock, bounds, ()), ("choice", 0), ("refused", told), None)

    def test_repairs(self):
        house = House((1, 1), FREE, ())
        for way in ("kinds", "types", "accepted"):
            costs = (1,) * len(items_for(CROSS, way))
            right = repair_paper(CROSS, way, costs)
            self.check(True, house, ("repair", way), ("repair", way, right.lot), right)
            for item in items_for(CROSS, way):
                # each repair of least cost is right
                if is_repair(CROSS, way, (item,)):
                    paper = RepairPaper(1, (item,), right.tree)
                    self.check(True, house, ("repair", way), ("repair", way, (item,)), paper)
                    if (item,) != right.lot:
                        self.check(False, house, ("repair", way), ("repair", way, right.lot), paper)
            for result, paper in ((("repair", way, ()), right), (("repair", way, right.lot), None),
                                  (("repair", right.lot), right), (("repair", "ways", right.lot), right),
                                  (("repair", way, list(right.lot)), right), (("refused", "size"), None),
                                  (("repair", way, right.lot), RepairPaper(1, right.lot, ("dear",)))):
                self.check(False, house, ("repair", way), result, paper)
        dear = repair_paper(CROSS, "kinds", (2, 2))
        self.check(False, house, ("repair", "kinds"), ("repair", "kinds", dear.lot), dear)
        many = House((1, 1), (None,) * 12, ())
        self.check(True, many, ("repair", "accepted"), ("refused", "size"), None, SEVENTEEN)
        self.check(False, many, ("repair", "accepted"), ("repair", "accepted", ()), RepairPaper(0, (), ("dear",)), SEVENTEEN)
        self.check(False, many, ("repair", "kinds"), ("refused", "size"), None, SEVENTEEN)
        sixteen = Table(SEVENTEEN.kinds, SEVENTEEN.types[:11])
        few = House((1, 1), (None,) * 11, ())
        self.check(True, few, ("repair", "accepted"), ("repair", "accepted", ()), RepairPaper(0, (), ("dear",)), sixteen)

    def test_leaving_and_bounds(self):
        house = House((0, 1), FREE, ((3, 0, 0),))
        self.check(True, house, ("leave", 3), ("did", ("leave", 3)), None)
        self.check(True, house, ("leave", 0), ("refused", "guest"), None)
        for command, result, paper in ((("leave", 3), ("refused", "guest"), None), (("leave", 0), ("did", ("leave", 0)), None),
                                       (("leave", 3), ("did", ("leave", 0)), None), (("leave", 3), ("did", ["leave", 3]), None),
                                       (("leave", 3), ("did", ("leave", 3)), ()), (("leave", 3), ("did", ("leave", 3.0)), None),
                                       (("leave", 0), ("refused", "unit"), None), (("leave", 0), ("refused",), None),
                                       (("leave", 3), ("did", ("refuse", 0)), None), (("leave", 3), ("do", ("leave", 3)), None)):
            self.check(False, house, command, result, paper)
        empty = House((1, 1), (0, 0, 0), ())
        for bounds in ((None, 5, 400), (0, 0, 0), FREE):
            self.check(True, empty, ("bounds", bounds), ("did", ("bounds", bounds)), None)
            self.check(False, empty, ("bounds", bounds), ("did", ("bounds", (1, 1, 1))), None)
            self.check(False, empty, ("bounds", bounds), ("did", ("bounds", list(bounds))), None)
            self.check(False, empty, ("bounds", bounds), ("did", ("bounds", bounds)), False)

    def test_requests_that_are_refused(self):
        for word in ("come", "moving"):
            for guests, bounds, expected in ((0, (0, None), "bound"), (400, (0, None), "bound"), (400, (1, None), "guests"),
                                             (400, (None, 0), "guests"), (399, (None, 0), None)):
                house = full_house(guests, TABLE, (0, 0), bounds)
                for told in ("bound", "guests", "unit"):
                    self.check(told == expected, house, (word, 0), ("refused", told), None, TABLE)
                paper = serving_paper(TABLE, (400, 400), (0,))
                self.check(False, house, (word, 0), ("refused", "bound"), paper, TABLE)
        house = House((1, 1), (0, 0), ())
        deed = ("serve", 0, 1, ())
        self.check(False, house, ("come", 0), ("did", deed), (full_paper(TABLE, (1, 1), (0, 0), ()),) * 2, TABLE)

    def deeds_with_papers(self, table, house, request):
        """Return all deeds that serve or refuse a request, each with a right paper if there is one."""
        deeds = [("refuse", request)] + serving_deeds(table, house, request)
        return [(deed, answer_paper(table, house, deed)) for deed in deeds]

    def test_requests_that_come(self):
        """Try all deeds with right papers, and compare with the words."""
        rng = random.Random(886)
        many = {"come": [0, 0], "moving": [0, 0]}
        tables = random_tables(70, 887, 3, 3) + [table for table, _, _ in crossing_cases(90, 888)]
        for table in tables:
            house = random_house(rng, table)
            for request, bound in enumerate(house.bounds):
                if bound == 0:
                    continue
                at_hand = kinds_at_hand(table, house.stock, request)
                regret = is_regret(table, house, request)
                unbeaten = unbeaten_kinds(table, house.stock, bounds_after(house.bounds, request), request)
                least = moving_answer(table, house, request)
                for deed, paper in self.deeds_with_papers(table, house, request):
                    for word in ("come", "moving"):
                        if at_hand:
                            right = deed[0] == "serve" and deed[3] == () and deed[2] in unbeaten
                        elif word == "come":
                            right = deed[0] == "refuse"
                        else:
                            right = not regret if deed[0] == "refuse" else len(deed[3]) == len(least[3])
                        self.check(right, house, (word, request), ("did", deed), paper, table)
                        many[word][right] += 1
                        self.check(False, house, (word, request), ("did", deed), None, table)
                        self.check(False, house, (word, request), ("do", deed), paper, table)
                        other = (request + 1) % len(table.types)
                        if other != request and house.bounds[other] != 0:
                            self.check(False, house, (word, other), ("did", deed), paper, table)
        self.assertGreater(min(many["come"] + many["moving"]), 40)

    def test_refusals_of_moving(self):
        # a refusal is right if the paper shows that no more are served than there are guests
        house = House((0, 0), FREE, ((0, 1, 0), (1, 0, 1)))
        row = (1, 0, 2)
        paper = serving_paper(CROSS, (1, 1), row)
        self.check(True, house, ("moving", 2), ("did", ("refuse", 2)), paper)
        self.check(True, house, ("come", 2), ("did", ("refuse", 2)), paper)
        room = House((0, 1), FREE, ((0, 0, 0),))
        paper = serving_paper(CROSS, (1, 1), (0, 1))
        self.check(True, room, ("come", 1), ("did", ("refuse", 1)), paper)
        self.check(False, room, ("moving", 1), ("did", ("refuse", 1)), paper)
        moves = ("serve", 1, 0, ((0, 1),))
        self.check(True, room, ("moving", 1), ("did", moves), answer_paper(CROSS, room, moves))
        self.check(False, room, ("come", 1), ("did", moves), answer_paper(CROSS, room, moves))
        self.check(False, room, ("moving", 1), ("did", moves), RemakePaper((1, 0), (0, 0)))
        # with a kind at hand neither refuses, nor moves
        hand = House((1, 1), FREE, ((0, 0, 0),))
        for word in ("come", "moving"):
            self.check(False, hand, (word, 1), ("did", ("refuse", 1)), serving_paper(CROSS, (2, 1), (0, 1)))
            self.check(True, hand, (word, 1), ("did", ("serve", 1, 0, ())), (full_paper(CROSS, (1, 1), FREE, (2,)),))
            self.check(False, hand, (word, 1), ("did", moves), RemakePaper((1, 0), (0, 0)))

    def test_deeds_of_other_kinds(self):
        house = House((1, 1), FREE, ((0, 0, 0),))
        papers = answer_paper(CROSS, house, ("serve", 0, 0, ()))
        self.assertEqual(2, len(papers))
        for deed in (("leave", 0), ("move", ()), ("move", ((0, 1),)), ("bounds", FREE), ("serve", 0, 0), ("serve", 0, 2, ()),
                     ["serve", 0, 0, ()], ("serve", 0, 0, []), ("serve", 1, 1, ()), ("serve", 0, 0, (), ()), None, (), "serve",
                     Unfriendly()):
            self.check(False, house, ("come", 0), ("did", deed), papers)
        for paper in (papers[:1], papers[::-1], list(papers), papers + papers[:1], None, (papers[0], None),
                      (papers[0], FullPaper(papers[1].types, papers[1].gap, ()))):
            self.check(False, house, ("come", 0), ("did", ("serve", 0, 0, ())), paper)

    def test_house_behind_the_deeds(self):
        """The pairs behind a deed are judged in the house that the deed in the answers leads to, of several right ones."""
        commands = (("come", 0), ("safe", 0, 1), ("most", (1,)), ("leave", 0), ("most", (0, 0)))
        runs = []
        for kind in (0, 1):
            house = House((1, 1), (None, 0, 0), ())
            deed = ("serve", 0, kind, ())
            behind = house_after(CROSS, house, deed)
            answers = ((("did", deed), answer_paper(CROSS, house, deed)), (("refused", "unit"), None),
                       (("most", kind), serving_paper(CROSS, behind.stock, (1,))), (("did", ("leave", 0)), None),
                       (("most", 2), serving_paper(CROSS, (1, 1), (0, 0))))
            self.assertIsNone(run_fault(CROSS, (1, 1), (None, 0, 0), commands, answers))
            runs.append(answers)
        for one, other in (runs, runs[::-1]):
            self.assertEqual(2, run_fault(CROSS, (1, 1), (None, 0, 0), commands, one[:2] + other[2:]))
            self.assertEqual(2, run_fault(CROSS, (1, 1), (None, 0, 0), commands, other[:1] + one[1:]))


class RegretTest(unittest.TestCase):
    def right_answers(self, rng, table, stock, bounds, commands):
        """Return right answers that choose, of all right deeds, any at random."""
        house = House(stock, bounds, ())
        answers = []
        for command in commands:
            result, paper = self.random_pair(rng, table, house, command)
            answers.append((result, paper))
            if result[0] == "did":
                house = house_after(table, house, result[1])
        return tuple(answers)

    def random_pair(self, rng, table, house, command):
        """Return some right pair of a command for a request, or a guest who leaves."""
        if command[0] == "leave":
            there = command[1] in [guest[0] for guest in house.guests]
            return (("did", command) if there else ("refused", "guest")), None
        pairs = [(("did", deed), answer_paper(table, house, deed))
                 for deed in [("refuse", command[1])] + serving_deeds(table, house, command[1])]
        return rng.choice([pair for pair in pairs if is_so(("pair", table, house, command) + pair)])

    def test_no_refusal_is_a_regret(self):
        """All come by come without crossing kinds, or all by moving, whatever the table and whoever leaves."""
        rng = random.Random(889)
        refused = {"come": 0, "moving": 0}
        tables = random_tables(60, 890, 3, 4) + [table for table, _, _ in crossing_cases(20, 891)]
        for table in tables:
            if not table.types:
                continue
            stock = tuple(rng.choice((0, 1, 1, 2)) for _ in table.kinds)
            for word in ("come", "moving"):
                if word == "come" and has_crossing(table):
                    continue
                commands = []
                for _ in range(6):
                    commands.append((word, rng.randrange(len(table.types))))
                    if word == "moving" and rng.random() < 0.3:
                        commands.append(("leave", rng.randrange(3)))
                bounds = (None,) * len(table.types)
                answers = self.right_answers(rng, table, stock, bounds, commands)
                self.assertIsNone(run_fault(table, stock, bounds, tuple(commands), answers))
                house = House(stock, bounds, ())
                for result, _ in answers:
                    if result[0] == "did":
                        if result[1][0] == "refuse":
                            refused[word] += 1
                            row = tuple(guest[1] for guest in house.guests) + (result[1][1],)
                            self.assertLess(meaning_of(table)(stock, row), len(row))
                        house = house_after(table, house, result[1])
        self.assertGreater(min(refused.values()), 50)


class StatementTest(unittest.TestCase):
    def statements(self):
        """Return one statement of each kind that is so."""
        case = (CROSS, (2, 1), (0, 1, 1))
        house = House((2, 1), (1, 1, 1), ())
        commands = (("court",), ("come", 0))
        pair = run_with_papers(CROSS, (2, 1), (1, 1, 1), (("choice", 0),))[0]
        return (("court", CROSS, court(CROSS)), ("court", TABLE, court(TABLE)),
                ("most", CROSS, (2, 1), (0, 1), serving_paper(CROSS, (2, 1), (0, 1))),
                ("safe",) + case + (comparison_paper(*case, 0, 1),), ("safe",) + case + (comparison_paper(*case, 1, 0),),
                ("choice",) + case + (choice_paper(*case, 0),),
                ("choice", CROSS, (1, 1), (0, 1, 1), choice_paper(CROSS, (1, 1), (0, 1, 1), 0)),
                ("repair", CROSS, "kinds", (3, 2), repair_paper(CROSS, "kinds", (3, 2))),
                ("repair", CROSS, "accepted", (3, 2, 1, 0), repair_paper(CROSS, "accepted", (3, 2, 1, 0))),
                ("pair", CROSS, house, ("choice", 0)) + pair,
                ("run", CROSS, (2, 1), FREE, commands, run_with_papers(CROSS, (2, 1), FREE, commands)))

    def test_so(self):
        for statement in self.statements():
            self.assertIs(True, is_so(statement), statement[0])
        self.assertEqual((), not_so(self.statements()))

    def test_each_part_counts(self):
        """Whatever stands in the place of one part, the statement is no longer so; and nothing is raised."""
        for statement in self.statements():
            for at in range(len(statement)):
                for value in odd_values():
                    self.assertIs(False, is_so(with_item(statement, at, value)), (statement[0], at, value))
                self.assertIs(False, is_so(statement[:at] + statement[at + 1:]))
                self.assertIs(False, is_so(statement[:at + 1] + statement[at:]))
                self.assertIs(False, is_so(with_item(statement, at, Unfriendly())))
            self.assertIs(False, is_so(list(statement)))
            self.assertIs(False, is_so(statement + (None,)))
        for value in odd_values() + ((), ("court",), ("court", CROSS), ("Court", CROSS, court(CROSS)), court(CROSS),
                                     ("forest", CROSS, court(CROSS))):
            self.assertIs(False, is_so(value))

    def test_parts_that_are_not_right(self):
        court_, _, most, safe, _, choice, _, repair, accepted, pair, run = self.statements()
        for statement, at, values in (
                (court_, 1, (TABLE, Bag(kinds=CROSS.kinds, types=CROSS.types))),
                (court_, 2, (court(TABLE), Crossing((0, 1), (0, 2, 1)), Crossing([0, 1], (0, 1, 2)))),
                (most, 2, ((2, 1, 0), (2,), [2, 1], (2, True), (401, 1), (2, -1))),
                (most, 3, ((0, 3), [0, 1], (0, True), (0, 1, 0), (0, -1), (0,) * 401)),
                (most, 4, (None, serving_paper(CROSS, (2, 1), (0, 1, 2)))),
                (safe, 2, ((2, 401), (2, None), (2, 0), [2, 1])), (safe, 3, ((0, 1, 401), (0, 1), (0, 1, -1), [0, 1, 1])),
                (safe, 4, (SafePaper(0, 1, None), choice_paper(CROSS, (2, 1), (0, 1, 1), 0))),
                (choice, 2, ((2, 401), (2, None), [2, 1])), (choice, 3, ((0, 1, 401), (0, 1), [0, 1, 1])),
                (choice, 4, (comparison_paper(CROSS, (2, 1), (0, 1, 1), 0, 1), ChoicePaper(0, 0, ()))),
                (repair, 2, ("types", "accepted", "ways", ["kinds"])),
                (repair, 3, ((3, 1), (3,), (3, 2, 1), [3, 2], (3, -2), (3, True), (3, 2.0))),
                (repair, 4, (RepairPaper(3, (0,), ("dear",)), RepairPaper(2, (1,), None))),
                (accepted, 3, ((3, 2, 1, 1), (3, 2, 1))),
                (pair, 2, (House((2, 1), (1, 1), ()), House((2, 1), (1, 1, 401), ()), House((2, 401), (1, 1, 1), ()),
                           House([2, 1], (1, 1, 1), ()), House((2, 1), (1, 1, 1), ((0, 1, 1),)), House((2, 1), (1, 1, 1), None),
                           House((400, 1), (1, 1, 1), ((0, 0, 0),)), House(Unfriendly(), Unfriendly(), Unfriendly()),
                           Bag(stock=(2, 1), bounds=(1, 1, 1), guests=()))),
                (pair, 3, (("choice", 3), ("choice", True), ("choice",), ["choice", 0], ("choice", 0, 0))),
                (run, 2, ((2, 401), (2,), [2, 1], (2, None))), (run, 3, ((None, None), (None, None, 401), list(FREE))),
                (run, 4, ((("court",), ("come", 3)), [("court",), ("come", 0)], (("court",), None), ("court", "come"),
                          (("court",), ("come", False)))),
                (run, 5, (run[5][:1], run[5] + run[5][:1], list(run[5])))):
            for value in values:
                self.assertIs(False, is_so(with_item(statement, at, value)), (statement[0], at, value))

    def test_sizes(self):
        for costs in ((1,) * 17, (0,) * 17, (1,) * 16):
            for paper in (RepairPaper(0, (), ("dear",)), None, Unfriendly()):
                self.assertIs(False, is_so(("repair", SEVENTEEN, "accepted", costs, paper)))
        self.assertIs(True, is_so(("repair", SEVENTEEN, "kinds", (1, 1), RepairPaper(0, (), ("dear",)))))
        sixteen = Table(SEVENTEEN.kinds, SEVENTEEN.types[:11])
        self.assertIs(True, is_so(("repair", sixteen, "accepted", (1,) * 16, RepairPaper(0, (), ("dear",)))))

    def test_empty_runs_and_rows(self):
        none = Table(("a",), ())
        self.assertIs(True, is_so(("run", none, (0,), (), (), ())))
        self.assertIs(False, is_so(("run", none, (0,), (), (), ((),))))
        self.assertIs(True, is_so(("most", none, (400,), (), serving_paper(none, (400,), ()))))
        self.assertIs(True, is_so(("court", none, court(none))))
        self.assertIs(True, is_so(("repair", none, "types", (), repair_paper(none, "types", ()))))

    def test_not_so(self):
        right = self.statements()
        self.assertEqual((), not_so(()))
        self.assertEqual((0, 2), not_so((None, right[0], right[1][:2])))
        values = odd_values()
        self.assertEqual(tuple(range(len(values))), not_so(values))
        mixed = ()
        for value in right:
            mixed += (value, value[:-1] + (None,))
        self.assertEqual(tuple(range(1, len(mixed), 2)), not_so(mixed))

    def test_many(self):
        rng = random.Random(892)
        many = [0, 0]
        for table, stock, bounds in crossing_cases(30, 893):
            row = tuple(rng.randrange(len(table.types)) for _ in range(3))
            commands = random_commands(rng, table, 5)
            statements = [("court", table, court(table)), ("most", table, stock, row, serving_paper(table, stock, row))]
            for one in range(len(table.kinds)):
                for other in range(len(table.kinds)):
                    statements.append(("safe", table, stock, bounds, comparison_paper(table, stock, bounds, one, other)))
            for request in range(len(table.types)):
                if kinds_at_hand(table, stock, request):
                    statements.append(("choice", table, stock, bounds, choice_paper(table, stock, bounds, request)))
            for way in ("kinds", "types"):
                costs = tuple(rng.randint(0, 3) for _ in items_for(table, way))
                self.assertIsNone(error_of(cheapest_repair, table, way, costs))
                statements.append(("repair", table, way, costs, repair_paper(table, way, costs)))
            statements.append(("run", table, stock, bounds, commands, run_with_papers(table, stock, bounds, commands)))
            self.assertEqual((), not_so(tuple(statements)))
            # with a unit more some are no longer so, and none raises anything
            more = tuple(units + 1 for units in stock)
            for statement in statements[1:]:
                if statement[0] != "repair":
                    many[is_so(with_item(statement, 2, more))] += 1
        self.assertGreater(min(many), 20)

    def test_grown_servings_are_most(self):
        for table, stock, bounds in crossing_cases(10, 894):
            row = tuple(range(len(table.types)))
            serving = grown_serving(table, stock, row, (None,) * len(row))
            paper = ServingPaper(serving, serving_paper(table, stock, row).cover)
            self.assertIs(True, is_so(("most", table, stock, row, paper)))
            for kind in best_kinds(table, stock, bounds, 0):
                papers = tuple(comparison_paper(table, stock, bounds, kind, other)
                               for other in kinds_at_hand(table, stock, 0) if other != kind)
                self.assertIs(True, is_so(("choice", table, stock, bounds, ChoicePaper(0, kind, papers))))
            for kind in range(len(table.kinds)):
                paper = full_paper(table, stock, bounds, types_without(table, kind))
                self.assertIs(True, is_so(("safe", table, stock, bounds, SafePaper(kind, kind, paper))))


if __name__ == "__main__":
    unittest.main()
