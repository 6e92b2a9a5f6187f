"""[86] Runs, [87] their lines, and of [88] runs with papers."""

import random
import unittest

from helpers import crossing_cases, error_of, has_crossing, is_same, meaning_of, odd_values, random_tables
from neverregret.answers import answer, is_answer_paper, moving_answer
from neverregret.choicepapers import is_choice_paper, is_no_choice_paper
from neverregret.choices import best_kinds, kinds_at_hand
from neverregret.commands import is_command, show_command, show_commands
from neverregret.court import Crossing, Forest, is_forest, is_verdict
from neverregret.covers import is_serving_paper
from neverregret.houses import House, house_after
from neverregret.reader import read_table
from neverregret.repairs import cheapest_repair, is_repair_paper
from neverregret.runs import house_of_run, run_commands, run_script, run_with_papers, show_result
from neverregret.safe import is_safe
from neverregret.safepapers import is_safe_paper, is_worse_paper
from neverregret.stocks import bounds_after
from neverregret.striking import is_repair, items_for
from neverregret.tables import Table

TABLE = read_table("any: a b\nlight: a")
CROSS = Table(("l", "s"), (("any", (0, 1)), ("large", (0,)), ("small", (1,))))
SEVENTEEN = Table(("a", "b"), tuple((name, (0, 1) if at < 5 else (0,)) for at, name in enumerate("klmnopqrstuv")))


def random_commands(rng, table, many):
    """Return some commands for a table; numbers of guests and kinds may be of none that is there."""
    found = []
    for _ in range(many):
        word = rng.choice(("come", "moving", "come", "moving", "leave", "bounds", "court", "most", "safe", "choice",
                           "choice", "repair"))
        if word in ("come", "moving", "choice"):
            command = (word, rng.randrange(max(1, len(table.types))))
        elif word == "leave":
            command = (word, rng.choice((0, 1, 2, 3, 399)))
        elif word == "bounds":
            command = (word, tuple(rng.choice((None, None, 0, 1, 5, 400)) for _ in table.types))
        elif word == "most":
            command = (word, tuple(rng.randrange(len(table.types)) for _ in range(rng.randint(0, 4)))
                       if table.types else ())
        elif word == "safe":
            command = (word, rng.randrange(len(table.kinds)), rng.randrange(len(table.kinds)))
        else:
            command = (word, rng.choice(("kinds", "types", "accepted"))) if word == "repair" else (word,)
        if is_command(table, command):
            found.append(command)
    return tuple(found)


def cases(many, seed, length=10):
    """Return small tables with a stock, bounds and commands each."""
    rng = random.Random(seed)
    found = []
    for table, stock, bounds in crossing_cases(many // 2, seed):
        found.append((table, stock, bounds, random_commands(rng, table, length)))
    for table in random_tables(many // 2, seed, 3, 3):
        stock = tuple(rng.choice((0, 1, 1, 2)) for _ in table.kinds)
        bounds = tuple(rng.choice((None, None, 0, 2)) for _ in table.types)
        found.append((table, stock, bounds, random_commands(rng, table, length)))
    return found


class RunTest(unittest.TestCase):
    def test_by_hand(self):
        commands = (("court",), ("come", 0), ("moving", 1), ("most", (1, 0)), ("leave", 0), ("safe", 0, 1), ("choice", 0))
        results = run_commands(TABLE, (1, 1), (None, None), commands)
        self.assertTrue(is_same((("forest",), ("did", ("serve", 0, 1, ())), ("did", ("serve", 1, 0, ())), ("most", 0),
                                 ("did", ("leave", 0)), ("refused", "unit"), ("best", 1)), results))
        house = house_of_run(TABLE, (1, 1), (None, None), results)
        self.assertTrue(house == House((0, 1), (None, None), ((1, 1, 0),)))

    def test_refused(self):
        commands = (("leave", 0), ("leave", 399), ("come", 0), ("come", 0), ("moving", 0), ("choice", 0), ("bounds", (5, 0)),
                    ("choice", 1), ("choice", 0), ("come", 1), ("moving", 1), ("come", 0), ("safe", 0, 1), ("safe", 1, 1))
        results = run_commands(TABLE, (1, 0), (1, None), commands)
        expected = (("refused", "guest"), ("refused", "guest"), ("did", ("serve", 0, 0, ())), ("refused", "bound"),
                    ("refused", "bound"), ("refused", "bound"), ("did", ("bounds", (5, 0))), ("refused", "bound"),
                    ("refused", "unit"), ("refused", "bound"), ("refused", "bound"), ("did", ("refuse", 0)),
                    ("refused", "unit"), ("refused", "unit"))
        self.assertTrue(is_same(expected, results))
        house = house_of_run(TABLE, (1, 0), (1, None), results)
        self.assertTrue(house == House((0, 0), (4, 0), ((0, 0, 0),)))

    def test_400_guests(self):
        commands = (("come", 0),) * 400 + (("come", 0), ("moving", 1), ("choice", 0), ("leave", 7), ("come", 1),
                                           ("bounds", (0, None)), ("come", 0), ("moving", 1))
        results = run_commands(TABLE, (400, 400), (None, None), commands)
        self.assertEqual([("refused", "guests")] * 2, list(results[400:402]))
        self.assertEqual("best", results[402][0])
        self.assertEqual(("did", ("serve", 1)), (results[404][0], results[404][1][:2]))
        self.assertEqual([("refused", "bound"), ("refused", "guests")], list(results[406:]))
        self.assertEqual(400, len(house_of_run(TABLE, (400, 400), (None, None), results).guests))

    def test_sizes(self):
        commands = tuple(("repair", way) for way in ("kinds", "types", "accepted"))
        results = run_commands(SEVENTEEN, (1, 1), (None,) * 12, commands)
        self.assertTrue(is_same((("repair", "kinds", ()), ("repair", "types", ()), ("refused", "size")), results))
        sixteen = Table(SEVENTEEN.kinds, SEVENTEEN.types[:11])
        self.assertTrue(is_same((("repair", "accepted", ()),),
                                run_commands(sixteen, (1, 1), (None,) * 11, commands[2:])))

    def test_by_words(self):
        words = {}
        for table, stock, bounds, commands in cases(110, 860):
            results = run_commands(table, stock, bounds, commands)
            self.assertEqual(len(commands), len(results))
            house = House(stock, bounds, ())
            for at, (command, result) in enumerate(zip(commands, results)):
                self.check_result(table, house, command, result)
                self.assertTrue(house == house_of_run(table, stock, bounds, results[:at]))
                if result[0] == "did":
                    house = house_after(table, house, result[1])
                word = "" if result[0] != "refused" else result[1]
                words[command[0], result[0], word] = words.get((command[0], result[0], word), 0) + 1
            self.assertTrue(house == house_of_run(table, stock, bounds, results))
        for key in (("come", "did", ""), ("moving", "did", ""), ("leave", "did", ""), ("leave", "refused", "guest"),
                    ("come", "refused", "bound"), ("safe", "safe", ""), ("safe", "worse", ""), ("choice", "best", ""),
                    ("safe", "refused", "unit"), ("choice", "refused", "unit"), ("choice", "refused", "bound"),
                    ("court", "forest", ""), ("court", "crossing", ""), ("repair", "repair", ""), ("choice", "none", "")):
            self.assertGreater(words.get(key, 0), 1, key)

    def check_result(self, table, house, command, result):
        """Check a result of a command by what the modules tell that were written before."""
        word = command[0]
        if word in ("come", "moving"):
            call = answer if word == "come" else moving_answer
            error = error_of(call, table, house, command[1])
            expected = ("refused", error[1]) if error else ("did", call(table, house, command[1]))
        elif word == "leave":
            there = command[1] in [guest[0] for guest in house.guests]
            expected = ("did", command) if there else ("refused", "guest")
        elif word == "bounds":
            expected = ("did", command)
        elif word == "court":
            forest = not has_crossing(table)
            self.assertTrue(result == ("forest",) if forest else is_verdict(table, Crossing(*result[1:])))
            expected = ("forest",) if forest else ("crossing",) + result[1:]
        elif word == "most":
            expected = ("most", meaning_of(table)(house.stock, command[1]))
        elif word == "safe":
            lacks = house.stock[command[1]] == 0 or house.stock[command[2]] == 0
            expected = ("refused", "unit") if lacks else (
                ("safe",) if is_safe(table, house.stock, house.bounds, *command[1:]) else ("worse",))
        elif word == "choice":
            expected = self.expected_choice(table, house, command[1], result)
        else:
            cost, _ = cheapest_repair(table, command[1], (1,) * len(items_for(table, command[1])))
            self.assertTrue(is_repair(table, command[1], result[2]))
            self.assertEqual(cost, len(result[2]))
            expected = ("repair", command[1], result[2])
        self.assertTrue(is_same(expected, result), (command, expected, result))

    def expected_choice(self, table, house, request, result):
        """Return what a result of asking for a choice must be; of several best kinds, its own one."""
        if house.bounds[request] == 0:
            return "refused", "bound"
        if not kinds_at_hand(table, house.stock, request):
            return "refused", "unit"
        best = best_kinds(table, house.stock, bounds_after(house.bounds, request), request)
        if not best:
            return ("none",)
        self.assertIn(result[1], best)
        return "best", result[1]

    def test_edges(self):
        none = Table(("a",), ())
        self.assertEqual((), run_commands(none, (1,), (), ()))
        self.assertTrue(house_of_run(none, (1,), (), ()) == House((1,), (), ()))
        self.assertTrue(is_same((("forest",), ("most", 0), ("safe",), ("did", ("bounds", ())), ("repair", "types", ())),
                                run_commands(none, (1,), (), (("court",), ("most", ()), ("safe", 0, 0), ("bounds", ()),
                                                              ("repair", "types")))))
        # asking changes nothing
        asking = (("court",), ("most", (0,)), ("safe", 0, 1), ("choice", 0), ("repair", "kinds"))
        results = run_commands(TABLE, (1, 1), (None, None), asking)
        self.assertTrue(house_of_run(TABLE, (1, 1), (None, None), results) == House((1, 1), (None, None), ()))


class PaperTest(unittest.TestCase):
    def test_papers(self):
        kinds = {}
        for table, stock, bounds, commands in cases(110, 880) + [
                (SEVENTEEN, (1, 1), (None,) * 12, (("repair", "accepted"), ("repair", "kinds")))]:
            pairs = run_with_papers(table, stock, bounds, commands)
            self.assertIsInstance(pairs, tuple)
            self.assertTrue(is_same(run_commands(table, stock, bounds, commands), tuple(pair[0] for pair in pairs)))
            house = House(stock, bounds, ())
            for command, (result, paper) in zip(commands, pairs):
                self.check_paper(table, house, command, result, paper)
                kinds[paper.__class__.__name__] = kinds.get(paper.__class__.__name__, 0) + 1
                if result[0] == "did":
                    house = house_after(table, house, result[1])
        for name in ("ServingPaper", "SafePaper", "WorsePaper", "ChoicePaper", "NoChoicePaper", "RepairPaper", "Forest",
                     "Crossing", "NoneType", "tuple"):
            self.assertGreater(kinds.get(name, 0), 1, name)

    def check_paper(self, table, house, command, result, paper):
        word = command[0]
        if result[0] == "refused" or word in ("leave", "bounds"):
            self.assertIsNone(paper)
        elif word in ("come", "moving"):
            self.assertTrue(is_answer_paper(table, house, result[1], paper))
        elif word == "court":
            self.assertTrue(is_verdict(table, paper))
            self.assertIsInstance(paper, Forest if result == ("forest",) else Crossing)
            self.assertTrue(result == ("forest",) or result[1:] == (paper.kinds, paper.types))
        elif word == "most":
            self.assertTrue(is_serving_paper(table, house.stock, command[1], paper))
            self.assertEqual(result[1], len(command[1]) - paper.serving.count(None))
        elif word == "safe":
            judge = is_safe_paper if result == ("safe",) else is_worse_paper
            self.assertTrue(judge(table, house.stock, house.bounds, paper))
            self.assertEqual(command[1:], (paper.one, paper.other))
        elif word == "choice":
            judge = is_choice_paper if result[0] == "best" else is_no_choice_paper
            self.assertTrue(judge(table, house.stock, bounds_after(house.bounds, command[1]), paper))
            self.assertEqual(command[1], paper.request)
            self.assertTrue(result == ("none",) or result[1] == paper.kind)
        else:
            costs = (1,) * len(items_for(table, command[1]))
            self.assertTrue(is_repair_paper(table, command[1], costs, paper))
            self.assertEqual(result[2], paper.lot)


class LinesTest(unittest.TestCase):
    def test_examples(self):
        text = "court\ncome any\nmoving light\nmost light any\nleave 0\nsafe a b\nchoice any"
        self.assertEqual(('forest', 'serve any b', 'serve light a', 'most 0', 'leave 0', 'refused unit', 'best b'),
                         run_script(TABLE, (1, 1), (None, None), text))

    def test_lines(self):
        for result, line in (
                (("did", ("serve", 0, 1, ())), "serve any s"), (("did", ("serve", 1, 0, ((0, 1), (12, 0)))),
                                                              "serve large l, 0 s, 12 l"),
                (("did", ("refuse", 2)), "refuse small"), (("did", ("leave", 12)), "leave 12"),
                (("did", ("bounds", (None, 0, 400))), "bounds large 0, small 400"),
                (("did", ("bounds", (None, None, None))), "bounds"), (("refused", "guests"), "refused guests"),
                (("forest",), "forest"), (("crossing", (0, 1), (0, 1, 2)), "crossing l s any large small"),
                (("most", 0), "most 0"), (("most", 400), "most 400"), (("safe",), "safe"), (("worse",), "worse"),
                (("best", 1), "best s"), (("none",), "none"), (("repair", "kinds", ()), "repair kinds"),
                (("repair", "kinds", (0, 1)), "repair kinds l s"), (("repair", "types", (1, 2)), "repair types large small"),
                (("repair", "accepted", ((0, 1),)), "repair accepted any s"),
                (("repair", "accepted", ((0, 1), (1, 0))), "repair accepted any s, large l"),
                (("repair", "accepted", ()), "repair accepted")):
            self.assertEqual(line, show_result(CROSS, result))

    def test_scripts(self):
        lines = run_script(CROSS, (1, 1), (None, None, 1), "come any\n\n moving   small \nbounds large 3\ncourt\n"
                           "repair accepted\nsafe l s\ncome small\nchoice small\nleave 9\nmost")
        self.assertIn(lines[0], ("serve any l", "serve any s"))
        self.assertIn(lines[1], ("serve small s", "serve small s, 0 l"))
        self.assertEqual(("bounds large 3", "crossing l s any large small"), lines[2:4])
        self.assertIn(lines[4], ("repair accepted any l", "repair accepted any s", "repair accepted large l",
                                 "repair accepted small s"))
        self.assertEqual(("refused unit", "refuse small", "refused unit", "refused guest", "most 0"), lines[5:])
        self.assertEqual((), run_script(CROSS, (1, 1), (None,) * 3, ""))
        self.assertEqual((), run_script(CROSS, (1, 1), (None,) * 3, "\n \n"))

    def test_scripts_are_runs(self):
        for table, stock, bounds, commands in cases(70, 870):
            text = show_commands(table, commands)
            results = run_commands(table, stock, bounds, commands)
            lines = run_script(table, stock, bounds, text)
            self.assertIsInstance(lines, tuple)
            self.assertEqual(tuple(show_result(table, result) for result in results), lines)
            for command, result, line in zip(commands, results, lines):
                self.assertEqual(line, " ".join(line.split()).replace(" ,", ","))
                if command[0] in ("leave", "bounds") and result[0] == "did":
                    self.assertEqual(show_command(table, command), line)

    def test_other_texts(self):
        for value in odd_values():
            if not isinstance(value, str):
                self.assertEqual(("InvalidText", -1, -1), error_of(run_script, TABLE, (1, 1), (None, None), value))
        for text, line in (("come any\nbest", 1), ("come", 0), ("\n\ncome nobody", 2), ("leave 400", 0), ("leave 01", 0),
                           ("safe a", 0), ("court now", 0), ("come any\nmost light 401 any", 1), ("repair all", 0)):
            self.assertEqual(("InvalidText", line, 0), error_of(run_script, TABLE, (1, 1), (None, None), text))

    def test_forests_agree(self):
        for table, stock, bounds, _ in cases(40, 871):
            self.assertEqual(is_forest(table), run_script(table, stock, bounds, "court") == ("forest",))


if __name__ == "__main__":
    unittest.main()
