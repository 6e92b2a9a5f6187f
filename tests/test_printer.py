"""[15] for what [12] and [13] say of the texts: texts that are shown."""

import unittest

from neverregret.printer import show_bounds, show_log, show_row, show_stock, show_table
from neverregret.tables import Table

TABLE = Table(("barn", "cabin", "loft", "yurt"), (("any", (0, 1, 3)), ("dry", (0, 3))))


class ShowTest(unittest.TestCase):
    def test_examples(self):
        self.assertEqual("any: barn cabin yurt\ndry: barn yurt\n: loft", show_table(TABLE))
        self.assertEqual("dry 3 any dry", show_row(TABLE, (1, 0, 0, 0, 1)))
        self.assertEqual("any cabin, dry -", show_log(TABLE, (0, 1), (1, None)))

    def test_tables(self):
        self.assertEqual(": a", show_table(Table(("a",), ())))
        self.assertEqual(": a b c", show_table(Table(("a", "b", "c"), ())))
        self.assertEqual("t:\nu: b\nv:\n: a c", show_table(Table(("a", "b", "c"), (("t", ()), ("u", (1,)), ("v", ())))))
        self.assertEqual("t: a", show_table(Table(("a",), (("t", (0,)),))))

    def test_stocks_and_bounds(self):
        self.assertEqual("barn 11, yurt 2", show_stock(TABLE, (11, 0, 0, 2)))
        self.assertEqual("", show_stock(TABLE, (0, 0, 0, 0)))
        self.assertEqual("barn 400, cabin 1, loft 1234, yurt 10", show_stock(TABLE, (400, 1, 1234, 10)))
        self.assertEqual("dry 0", show_bounds(TABLE, (None, 0)))
        self.assertEqual("any 400, dry 1", show_bounds(TABLE, (400, 1)))
        self.assertEqual("", show_bounds(TABLE, (None, None)))
        self.assertEqual("", show_bounds(Table(("a",), ()), ()))

    def test_rows_and_logs(self):
        self.assertEqual("", show_row(TABLE, ()))
        self.assertEqual("2 any", show_row(TABLE, (0, 0)))
        self.assertEqual("any dry any dry", show_row(TABLE, (0, 1, 0, 1)))
        self.assertEqual("any 399 dry", show_row(TABLE, (0,) + (1,) * 399))
        self.assertEqual("500 dry 2 any", show_row(TABLE, (1,) * 500 + (0, 0)))
        self.assertEqual("", show_log(TABLE, (), ()))
        self.assertEqual("dry -, dry barn, dry barn", show_log(TABLE, (1, 1, 1), (None, 0, 0)))


if __name__ == "__main__":
    unittest.main()
