"""[11] Marks."""

import random
import unittest

from neverregret.lexer import marks_of


class MarksTest(unittest.TestCase):
    def test_runs(self):
        self.assertEqual(((0, 0, "dry"), (0, 3, ":"), (0, 5, "barn"), (0, 10, "yurt"), (0, 14, "\n"), (1, 0, "\n"),
                          (2, 1, "any"), (2, 4, "007"), (2, 7, "b")), marks_of("dry: barn yurt\n\n any007b"))

    def test_edges(self):
        self.assertEqual((), marks_of(""))
        self.assertEqual((), marks_of("   "))
        self.assertEqual(((0, 0, "\n"),), marks_of("\n"))
        self.assertEqual(((0, 2, "\n"), (1, 1, "a")), marks_of("  \n a"))
        self.assertEqual(((0, 0, "a" * 500),), marks_of("a" * 500))
        self.assertEqual(((0, 0, "1" * 400), (0, 401, "0")), marks_of("1" * 400 + " 0"))

    def test_single_signs(self):
        self.assertEqual(((0, 0, "A"), (0, 1, "B"), (0, 2, "c"), (0, 3, "~"), (0, 4, "~"), (0, 5, "-"), (0, 6, "1"),
                          (0, 7, "."), (0, 8, "5"), (0, 9, "\t"), (0, 10, "_"), (0, 11, "`"), (0, 12, "{"),
                          (0, 13, "/"), (0, 14, ":")), marks_of("ABc~~-1.5\t_`{/:"))
        self.assertEqual(((0, 0, "\u00e4"), (0, 1, "\u0663"), (0, 2, "\r"), (0, 3, "\n")),
                         marks_of("\u00e4\u0663\r\n"))

    def test_by_the_words(self):
        rng = random.Random(11)
        for _ in range(300):
            text = "".join(rng.choice("ab01 \n:,A-") for _ in range(rng.randint(0, 15)))
            lines = text.split("\n")
            marks = marks_of(text)
            for line, at, mark in marks:
                self.assertTrue((lines[line] + "\n").startswith(mark, at))
            self.assertEqual(text.replace(" ", ""), "".join(mark for _, _, mark in marks))
            self.assertEqual(len(lines) - 1, [mark for _, _, mark in marks].count("\n"))
            for (line, at, mark), (later_line, later_at, later) in zip(marks, marks[1:]):
                self.assertTrue((line, at) < (later_line, later_at))
                for signs in ("ab", "01"):
                    if mark[0] in signs and later[0] in signs and line == later_line:
                        self.assertGreater(later_at, at + len(mark))
            for _, _, mark in marks:
                self.assertTrue(len(mark) == 1 or set(mark) <= set("ab") or set(mark) <= set("01"))


if __name__ == "__main__":
    unittest.main()
