"""The examples of the document, chapter by chapter, as far as what they import is written."""

import doctest
import pathlib
import unittest

README = pathlib.Path(__file__).resolve().parent.parent / "README.md"

CHAPTERS = {
    "1": """
    >>> from neverregret.reader import read_table
    >>> from neverregret.court import court
    >>> court(read_table("small: s\\nlarge: l\\nany: s l")).__class__.__name__
    'Crossing'
    >>> court(read_table("large: l\\nany: s l")).__class__.__name__
    'Forest'
    """,
    "3": """
    >>> from neverregret.remade import pieces
    >>> from neverregret.stocks import bounds_after, unit_taken
    >>> from neverregret.tables import Table, joined_kinds, kinds_of_types, takers
    >>> table = Table(("barn", "cabin", "yurt"), (("dry", (0, 1)), ("tall", (0, 1)), ("warm", (2,))))
    >>> takers(table, 1), kinds_of_types(table, (0, 2)), unit_taken((2, 0, 5), 2), bounds_after((3, None, 0), 0)
    ((0, 1), (0, 1, 2), (2, 0, 4), (2, None, 0))
    >>> joined_kinds(table)[1], pieces(table)
    ((0, 0, 1), (((0, 1), (0, 1)), ((2,), (2,))))
    """,
    "4": """
    >>> from neverregret.reader import read_bounds, read_log, read_row, read_stock, read_table
    >>> table = read_table("dry: barn yurt\\n\\nany: yurt cabin barn\\n: loft")
    >>> table.kinds, table.types
    (('barn', 'cabin', 'loft', 'yurt'), (('any', (0, 1, 3)), ('dry', (0, 3))))
    >>> read_stock(table, "yurt 2, barn 11"), read_bounds(table, "dry 0")
    ((11, 0, 0, 2), (None, 0))
    >>> read_row(table, "dry 3 any dry"), read_log(table, "any cabin, dry -")
    ((1, 0, 0, 0, 1), ((0, 1), (1, None)))
    >>> from neverregret.printer import show_log, show_row, show_table
    >>> show_table(table), show_row(table, (1, 0, 0, 0, 1)), show_log(table, (0, 1), (1, None))
    ('any: barn cabin yurt\\ndry: barn yurt\\n: loft', 'dry 3 any dry', 'any cabin, dry -')
    """,
    "5": """
    >>> from neverregret.plain import kept_places, most_served, regrets
    >>> from neverregret.tables import Table
    >>> table = Table(("l", "s"), (("any", (0, 1)), ("large", (0,)), ("small", (1,))))
    >>> most_served(table, (1, 1), (0, 1, 2)), kept_places(table, (1, 1), (0, 1, 2))
    (2, (0, 1))
    >>> regrets(table, (1, 1), (0, 1, 2), (0, None, 1))
    (1,)
    >>> from neverregret.games import attack_row, never_plan
    >>> never_plan(table, (1, 1), (1, 1, 1))
    ('attack', (0, ((1, ()), (2, ()))))
    >>> attack_row(table, (1, 1), (0, ((1, ()), (2, ()))), ((1, 0), (0,), (1,)))
    (0, 2)
    >>> from neverregret.trials import first_worse_row, never_worse_pairs
    >>> first_worse_row(table, (1, 1), (0, 1, 0), 0, 1), never_worse_pairs(table, (1, 1), (0, 1, 0))
    ((1,), ((0, 0), (1, 0), (1, 1)))
    """,
    "6": """
    >>> from neverregret.court import court, crossing_pairs
    >>> from neverregret.forests import upward_kinds
    >>> from neverregret.reader import read_table
    >>> table = read_table("bike: lane road\\ncart: road\\nskate: lane park road")
    >>> forest = court(table)
    >>> forest.places, forest.above, forest.homes, upward_kinds(forest, 2)
    (((0,), (1,), (2,)), (2, 0, -1), (0, 2, 1), (1, 0, 2))
    >>> crossing_pairs(read_table("both: a b\\nleft: a\\nright: b"))
    ((0, 1),)
    >>> court(read_table("both: a b\\nleft: a\\nright: b")).types
    (0, 1, 2)
    """,
    "7": """
    >>> from neverregret.reader import read_table
    >>> table = read_table("bike: lane road\\ncart: road\\nskate: lane park road")
    >>> from neverregret.rule import left_by_rule, served_by_rule
    >>> served_by_rule(table, (1, 1, 2), (2, 0, 1, 2, 1)), left_by_rule(table, (1, 1, 2), (2, 0, 1, 2, 1))
    ((1, 0, 2, 2, None), (0, 0, 0))
    >>> from neverregret.leastkinds import least_kinds, wrong_row
    >>> least_kinds(table, (1, 1, 2), 2), wrong_row(table, (1, 1, 2), 2, 1), wrong_row(table, (1, 0, 2), 0, 2) is None
    ((1,), None, False)
    >>> from neverregret.refusals import is_refusal_lot, refusal_lots
    >>> refusal_lots(table, (1, 1, 2), (2, 0, 1, 2, 1), (1, 0, 2, 2, None))
    {4: (0, 1, 2)}
    >>> is_refusal_lot(table, (1, 1, 2), (2, 0, 1, 2, 1), (1, 0, 2, 2, None), 4, (1, 2))
    False
    >>> from neverregret.anyorder import served_in_orders, unlike_orders
    >>> served_in_orders(table, (1, 1, 2), (2, 0, 1, 2, 1))
    (4,)
    >>> unlike_orders(read_table("both: a b\\nleft: a\\nright: b"))
    ((1, 1), (0, 1), (1, 0))
    """,
    "8": """
    >>> from neverregret.covers import least_cover, least_covers
    >>> from neverregret.servings import way_from
    >>> from neverregret.tables import Table
    >>> table = Table(("l", "s"), (("any", (0, 1)), ("large", (0,)), ("small", (1,))))
    >>> way_from(table, (1, 1), (0, 1), (0, None), 1)
    ((1, 0), (0, 1))
    >>> least_cover(table, (1, 1), (0, 1, 2)), least_covers(table, (1, 1), (1,))
    ((0, 1, 2), ((), (1,)))
    """,
    "9": """
    >>> from neverregret.court import court
    >>> from neverregret.reader import read_table
    >>> from neverregret.upward import overflows, refused_count, room_for
    >>> forest = court(read_table("bike: lane road\\ncart: road\\nskate: lane park road"))
    >>> overflows(forest, (1, 0, 2), (2, 0, 2)), refused_count(forest, (1, 0, 2), (2, 0, 2))
    ((3, 2, 1), 1)
    >>> room_for(forest, (1, 4, 2), (2, 0, 2), 1)
    1
    >>> from neverregret.buying import price_of_all, purchases_in_turn, sales_in_turn
    >>> purchases_in_turn(forest, (0, 0, 1), (2, 0, 2), (5, 3, 9)), price_of_all(forest, (0, 0, 1), (2, 0, 2), (5, 3, 9))
    ((1, 1, 0), 11)
    >>> sales_in_turn(forest, (1, 2, 2), (2, 0, 1), (5, 3, 9))
    (2, 1)
    >>> from neverregret.keptupward import Upward
    >>> kept = Upward(forest, (1, 0, 2), (1, 0, 1))
    >>> kept.come(2), kept.come(0), kept.refused(), kept.unit_comes(1), kept.overflowing()
    ((1, 0), (0, 2), 1, (1, 0, 2), (2, 1, 0))
    """,
    "10": """
    >>> from neverregret.full import full_row, greatest_full
    >>> from neverregret.fullpapers import full_paper, is_full_paper, paper_rest
    >>> from neverregret.gaps import worst_gap
    >>> from neverregret.tables import Table
    >>> table = Table(("attic", "cellar"), (("any", (0, 1)), ("dark", (1,)), ("light", (0,))))
    >>> greatest_full(table, (2, 1), (3, 1, 1), 0), greatest_full(table, (2, 1), (3, 1, 1), 1)
    ((1,), ())
    >>> worst_gap(table, (2, 1), (3, 1, 1), (2,)), full_row(table, (2, 1), (3, 1, 1), (1,))
    ((0,), ((1,), (1,)))
    >>> paper = full_paper(table, (2, 1), (3, 1, 1), (1, 2))
    >>> paper.gap, paper.taking, paper_rest(table, paper), is_full_paper(table, (2, 1), (3, 1, 1), paper)
    ((0,), ((0, 0), (0, 1), (0, 0)), (1,), True)
    """,
    "14": """
    >>> from neverregret.dayattacks import attacked_day
    >>> from neverregret.returns import line_of
    >>> from neverregret.tables import Table
    >>> table = Table(("l", "s"), (("any", (0, 1)), ("large", (0,))))
    >>> line_of(table, (1, 1), (1,)).lots, line_of(table, (1, 1), (0,)).kinds
    ((((1,), (0,)), ((0,),)), (1, 0))
    >>> attacked_day(table, (1, 1), line_of(table, (1, 1), (0,)), ((1, 0), (0,)))
    ((('comes', 0), ('comes', 0), ('leaves', 0), ('comes', 1)), (1, 0, None, None))
    """,
    "15": """
    >>> from neverregret.moves import cheapest_remake
    >>> from neverregret.tables import Table
    >>> table = Table(("l", "s"), (("any", (0, 1)), ("large", (0,)), ("small", (1,))))
    >>> cheapest_remake(table, (1, 1), (0, 1), (0, None), (1,), (3, 0))
    (1, 0)
    >>> from neverregret.movers import types_to_move
    >>> types_to_move(table)
    (0,)
    """,
    "16": """
    >>> from neverregret.disk import Disk, cut_cells
    >>> cut_cells((5, 6, 7, 8), ((1, 9), None, (2, 3), (0, 4)), (77, 0))
    (77, 9, 0, 8)
    """,
    "17": """
    >>> from neverregret.reader import read_table
    >>> from neverregret.striking import items_for, struck_table
    >>> table = read_table("both: a b\\nleft: a\\nright: b")
    >>> items_for(table, "accepted"), struck_table(table, "kinds", (1,)).types
    (((0, 0), (0, 1), (1, 0), (2, 1)), (('both', (0,)), ('left', (0,)), ('right', ())))
    >>> from neverregret.live import LiveTable
    >>> live = LiveTable(table)
    >>> live.strike("left", "a"), live.type_comes("low", ("a",)), live.pair_counts("b", "a")
    (((), (('a', 'b'),)), ((('a', 'b'),), ()), (1, 1, 1))
    """,
}


class ExamplesTest(unittest.TestCase):
    def check(self, text, name):
        test = doctest.DocTestParser().get_doctest(text, {}, name, None, 0)
        told = []
        results = doctest.DocTestRunner().run(test, out=told.append)
        self.assertGreater(results.attempted, 0)
        self.assertEqual(0, results.failed, "".join(told))

    def test_chapters(self):
        for chapter, text in CHAPTERS.items():
            with self.subTest(chapter=chapter):
                self.check(text, "chapter " + chapter)

    def test_readme(self):
        self.check(README.read_text(), "README.md")


if __name__ == "__main__":
    unittest.main()
