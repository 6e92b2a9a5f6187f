"""The examples of the document, chapter by chapter, as far as what they import is written."""

import doctest
import pathlib
import unittest

README = pathlib.Path(__file__).resolve().parent.parent / "README.md"

CHAPTERS = {
    "3": """
    >>> from neverregret.remade import pieces
    >>> from neverregret.tables import Table, joined_kinds, kinds_of_types, takers
    >>> table = Table(("barn", "cabin", "yurt"), (("dry", (0, 1)), ("tall", (0, 1)), ("warm", (2,))))
    >>> takers(table, 1), kinds_of_types(table, (0, 2))
    ((0, 1), (0, 1, 2))
    >>> joined_kinds(table)[1], pieces(table)
    ((0, 0, 1), (((0, 1), (0, 1)), ((2,), (2,))))
    """,
    "4": """
    >>> from neverregret.printer import show_log, show_row, show_table
    >>> from neverregret.tables import Table
    >>> table = Table(('barn', 'cabin', 'loft', 'yurt'), (('any', (0, 1, 3)), ('dry', (0, 3))))
    >>> show_table(table), show_row(table, (1, 0, 0, 0, 1)), show_log(table, (0, 1), (1, None))
    ('any: barn cabin yurt\\ndry: barn yurt\\n: loft', 'dry 3 any dry', 'any cabin, dry -')
    """,
    "16": """
    >>> from neverregret.disk import Disk, cut_cells
    >>> cut_cells((5, 6, 7, 8), ((1, 9), None, (2, 3), (0, 4)), (77, 0))
    (77, 9, 0, 8)
    """,
}


class ExamplesTest(unittest.TestCase):
    def check(self, text, name):
        test = doctest.DocTestParser().get_doctest(text, {}, name, None, 0)
        told = []
        results = doctest.DocTestRunner().run(test, out=told.append)
        self.assertGreater(results.attempted, 0)
        self.assertEqual(0, results.failed, "".join(told))

    def test_chapters(self):
        for chapter, text in CHAPTERS.items():
            with self.subTest(chapter=chapter):
                self.check(text, "chapter " + chapter)

    def test_readme(self):
        self.check(README.read_text(), "README.md")


if __name__ == "__main__":
    unittest.main()
