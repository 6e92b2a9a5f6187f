"""What the document promises over the whole program: what is told in several ways is told alike."""

import itertools
import random
import unittest

from helpers import all_tables, cases_within, crossing_cases, has_crossing, random_tables, safe_by_trying
from neverregret.anyorder import served_in_orders, unlike_orders
from neverregret.claims import run_fault
from neverregret.court import Forest, court, crossing_pairs, crossings_of, is_forest
from neverregret.covers import ServingPaper, is_serving_paper, least_covers
from neverregret.crossing import crossing_bounds, crossing_day
from neverregret.desk import Desk, start_desk
from neverregret.disk import Disk, cut_cells, pending_places
from neverregret.falling import worse_by_row
from neverregret.fewestrows import fewest_requests, least_regret_row
from neverregret.full import full_lots, is_full
from neverregret.games import some_rule
from neverregret.live import LiveTable
from neverregret.movers import are_enough, types_to_move
from neverregret.plain import kept_places, most_served, regrets, sorted_rows
from neverregret.regretrows import regret_row, tells_apart
from neverregret.repairs import cheapest_repair
from neverregret.rule import served_by_rule
from neverregret.runs import house_of_run, run_commands, run_script, run_with_papers, show_result
from neverregret.safe import is_safe, safe_pairs, unit_kinds, worse_kinds
from neverregret.servings import greatest_serving, most_by_ways, served_places
from neverregret.stocks import row_counts
from neverregret.striking import is_repair, items_for
from neverregret.tables import kinds_of_types, type_names
from neverregret.takings import greatest_taking, taken_units
from neverregret.trials import first_worse_row, never_worse, never_worse_pairs
from neverregret.upward import refused_count
from neverregret.wanted import needed_kinds
from test_runs import random_commands


def cells_now(disk):
    """Return the present cells of a disk."""
    return tuple(disk.look(at) for at in range(len(disk.cells)))


def some_tables():
    """Return small tables with and without crossing kinds."""
    return all_tables(2, 3)[::2] + random_tables(40, 900, 4, 4) + [table for table, _, _ in crossing_cases(25, 913)]


class TriedTest(unittest.TestCase):
    """What is found by trying in chapter 5 is what later chapters find with less work."""

    def test_most_served(self):
        rng = random.Random(901)
        for table in some_tables():
            stock = tuple(rng.choice((0, 1, 2)) for _ in table.kinds)
            row = tuple(rng.randrange(len(table.types)) for _ in range(rng.randint(0, 6) if table.types else 0))
            number = most_served(table, stock, row)
            serving = greatest_serving(table, stock, row)
            self.assertEqual(number, most_by_ways(table, stock, row))
            self.assertEqual(kept_places(table, stock, row), served_places(serving))
            self.assertEqual((), regrets(table, stock, row, serving))
            for cover in least_covers(table, stock, row):
                self.assertTrue(is_serving_paper(table, stock, row, ServingPaper(serving, cover)))
            counts = row_counts(table, row)
            taking = greatest_taking(table, stock, counts, tuple(range(len(table.types))))
            self.assertEqual(number, taken_units(taking))
            if is_forest(table):
                self.assertEqual(number, len(row) - refused_count(court(table), stock, counts))
                self.assertEqual(number, len(row) - served_by_rule(table, stock, row).count(None))

    def test_never_worse(self):
        for table, stock, bounds in cases_within(100, 902) + crossing_cases(60, 903):
            if not sum(stock):
                continue
            pairs = never_worse_pairs(table, stock, bounds)
            self.assertEqual(safe_by_trying(table, stock, bounds), pairs)
            self.assertEqual(pairs, safe_pairs(table, stock, bounds))
            for one, other in itertools.product(unit_kinds(stock), repeat=2):
                safe = (one, other) in pairs
                self.assertEqual(safe, never_worse(table, stock, bounds, one, other))
                self.assertEqual(safe, is_safe(table, stock, bounds, one, other))
                self.assertEqual(safe, one not in worse_kinds(table, stock, bounds, other))
                self.assertEqual(safe, one not in worse_by_row(table, stock, bounds, other))
                self.assertEqual(safe, regret_row(table, stock, bounds, one, other) is None)
                self.assertEqual(safe, fewest_requests(table, stock, bounds, one, other) is None)
                # the first row found by trying is the least of those with the fewest requests
                first = first_worse_row(table, stock, bounds, one, other)
                self.assertEqual(first, least_regret_row(table, stock, bounds, one, other))
                if first is not None:
                    self.assertLess(len(first), sum(stock))
                    self.assertTrue(tells_apart(table, stock, one, other, first))

    def test_full_lots_and_rows(self):
        for table, stock, bounds in cases_within(40, 904):
            rows = sorted_rows(table, bounds, sum(stock))
            lots = full_lots(table, stock, bounds)
            for lot in lots:
                units = sum(stock[kind] for kind in kinds_of_types(table, lot))
                self.assertTrue(any(most_served(table, stock, row) == units + sum(request not in lot for request in row)
                                    for row in rows))
                self.assertTrue(is_full(table, stock, bounds, lot))

    def test_needed_kinds_and_rows(self):
        for table, stock, _ in crossing_cases(40, 905):
            for row in sorted_rows(table, (None,) * len(table.types), 3):
                needed = needed_kinds(table, stock, row)
                for one, other in itertools.product(unit_kinds(stock), repeat=2):
                    self.assertEqual(one in needed and other not in needed, tells_apart(table, stock, one, other, row))


class CrossTest(unittest.TestCase):
    """Court, rule, orders, movable types, repairs, the game and a live table agree on whether two kinds cross."""

    def test_all_agree(self):
        many = [0, 0]
        rng = random.Random(906)
        for table in some_tables():
            crossing = has_crossing(table)
            many[crossing] += 1
            self.assertEqual(not crossing, is_forest(table))
            self.assertEqual(not crossing, isinstance(court(table), Forest))
            self.assertEqual(crossing, bool(crossing_pairs(table)))
            self.assertEqual(crossing, unlike_orders(table) is not None)
            self.assertEqual(crossing, bool(types_to_move(table)))
            self.assertEqual(not crossing, are_enough(table, ()))
            for way in ("kinds", "types", "accepted"):
                self.assertEqual(not crossing, is_repair(table, way, ()))
                if len(items_for(table, way)) <= 10:
                    cost, _ = cheapest_repair(table, way, (1,) * len(items_for(table, way)))
                    self.assertEqual(crossing, cost > 0)
            self.check_live(table)
            self.check_games(rng, table)
            lines = run_script(table, (1,) * len(table.kinds), (None,) * len(table.types), "court\nrepair kinds")
            self.assertEqual(crossing, lines[0] != "forest")
            self.assertEqual(crossing, lines[1] != "repair kinds")
        self.assertGreater(min(many), 20)

    def check_live(self, table):
        """Build a table step by step, and compare what crosses at the end."""
        live = LiveTable(table)
        names = tuple((table.kinds[one], table.kinds[other]) for one, other in crossing_pairs(table))
        self.assertEqual(names, live.crossing_names())
        present = set(names)
        for name in type_names(table):
            now, gone = live.type_goes(name)
            self.assertTrue(set(gone) <= present and not set(now) & present)
            present = (present | set(now)) - set(gone)
        self.assertEqual(set(), present)
        for name, lot in table.types:
            now, gone = live.type_comes(name, tuple(table.kinds[kind] for kind in lot))
            present = (present | set(now)) - set(gone)
        self.assertEqual(set(names), present)
        self.assertTrue(live.table == table)
        self.assertEqual(is_forest(table), isinstance(live.verdict(), Forest))

    def check_games(self, rng, table):
        """Check the game with one unit of each of two kinds and one request of each type to come."""
        pairs = list(itertools.combinations(range(len(table.kinds)), 2))
        plans = []
        for one, other in pairs:
            stock = tuple(int(kind in (one, other)) for kind in range(len(table.kinds)))
            plans.append(some_rule(table, stock, (1,) * len(table.types)))
        self.assertEqual(not has_crossing(table), all(plans))
        for crossing in crossings_of(table)[:2]:
            stock, _ = crossing_day(table, crossing)
            self.assertFalse(some_rule(table, stock, crossing_bounds(table, crossing)))
        row = tuple(rng.randrange(len(table.types)) for _ in range(4 if table.types else 0))
        stock = tuple(rng.choice((0, 1, 2)) for _ in table.kinds)
        if not has_crossing(table):
            self.assertEqual((), regrets(table, stock, row, served_by_rule(table, stock, row)))
            self.assertEqual((most_served(table, stock, row),), served_in_orders(table, stock, row))

    def test_repaired_tables_have_rules(self):
        for table in [table for table in random_tables(80, 907, 4, 4) if has_crossing(table)][:12]:
            for way in ("kinds", "types"):
                _, lot = cheapest_repair(table, way, (1,) * len(items_for(table, way)))
                live = LiveTable(table)
                for item in lot:
                    if way == "types":
                        live.type_goes(type_names(table)[item])
                    elif len(live.table.kinds) > 1:
                        live.kind_goes(table.kinds[item])
                self.assertIsInstance(live.verdict(), Forest)
                self.assertEqual((), live.crossing_names())


class DeskTest(unittest.TestCase):
    """The lines of a run and the deeds of a desk, cut and begun again, are those of the same commands."""

    def deed_on(self, cells, command):
        """Do what a command tells on the desk on cells; return what it did or was refused by, and the disk."""
        disk = Disk(cells)
        desk = Desk(disk)
        word = command[0]
        try:
            if word == "come":
                return ("did", desk.come(command[1])), disk
            if word == "moving":
                return ("did", desk.come_moving(command[1])), disk
            return ("did", desk.do(command)), disk
        except ValueError as error:
            return ("refused", "guest" if error.word == "deed" else error.word), disk

    def cut(self, rng, cells, disk):
        """Return cells that a cut during the last call leaves."""
        events = disk.events()
        part = events[:rng.randint(0, len(events))]
        return cut_cells(cells, part, tuple(rng.randrange(256) for _ in pending_places(part)))

    def test_runs_and_desks(self):
        rng = random.Random(908)
        words = {}
        cases = crossing_cases(14, 909) + cases_within(26, 910)
        for table, stock, bounds in cases:
            commands = tuple(command for command in random_commands(rng, table, 24)
                             if command[0] in ("come", "moving", "leave", "bounds"))
            results = run_commands(table, stock, bounds, commands)
            disk = Disk((0,) * 4000)
            start_desk(disk, table, stock, bounds)
            cells = cells_now(disk)
            deeds = ()
            for command, result in zip(commands, results):
                found, disk = self.deed_on(cells, command)
                while rng.random() < 0.5:
                    # cut, and if the deed was not done, it is done again
                    left = self.cut(rng, cells, disk)
                    present = Desk(Disk(left)).deeds()
                    self.assertIn(present, (deeds, Desk(disk).deeds()))
                    if present == deeds:
                        cells = left
                        found, disk = self.deed_on(cells, command)
                self.assertEqual(result, found)
                if found[0] == "did":
                    deeds += (found[1],)
                cells = cells_now(disk)
                self.assertEqual(deeds, Desk(Disk(cells)).deeds())
                words[result[0], result[1][0] if result[0] == "did" else result[1]] = True
            self.assertTrue(house_of_run(table, stock, bounds, results) == Desk(Disk(cells)).house)
            lines = tuple(show_result(table, ("did", deed)) for deed in deeds)
            self.assertEqual(tuple(show_result(table, result) for result in results if result[0] == "did"), lines)
        for word in (("did", "serve"), ("did", "refuse"), ("did", "leave"), ("did", "bounds"), ("refused", "bound"),
                     ("refused", "guest")):
            self.assertIn(word, words)

    def test_packed_desks_go_on(self):
        rng = random.Random(911)
        for table, stock, bounds in crossing_cases(20, 912):
            commands = tuple(command for command in random_commands(rng, table, 16)
                             if command[0] in ("come", "moving", "leave", "bounds"))
            results = run_commands(table, stock, bounds, commands)
            disk = Disk((0,) * 4000)
            start_desk(disk, table, stock, bounds)
            for at, (command, result) in enumerate(zip(commands, results)):
                found, disk = self.deed_on(cells_now(disk), command)
                self.assertEqual(result, found)
                if rng.random() < 0.3:
                    Desk(disk).pack()
                self.assertTrue(Desk(disk).house == house_of_run(table, stock, bounds, results[:at + 1]))
            answers = run_with_papers(table, stock, bounds, commands)
            self.assertIsNone(run_fault(table, stock, bounds, commands, answers))


if __name__ == "__main__":
    unittest.main()
