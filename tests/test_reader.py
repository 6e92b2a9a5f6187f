"""[12] to [15]: texts read, refused and completed; and texts that are shown, read again."""

import itertools
import random
import unittest

from helpers import SINGLES, error_of, random_tables
from neverregret.lexer import marks_of
from neverregret.printer import show_bounds, show_log, show_row, show_stock, show_table
from neverregret.reader import (completed_bounds, completed_log, completed_row, completed_stock, completed_table,
                                read_bounds, read_log, read_row, read_stock, read_table)
from neverregret.tables import Table

BARNS = read_table("dry: barn yurt\n\nany: yurt cabin barn\n: loft")
SMALL = Table(("a", "b"), (("t", (0, 1)), ("u", (0,)), ("v", ())))
EMPTY = Table(("a",), ())


def joined_text(rng, marks):
    """Return some text with these marks."""
    text = ""
    for mark in marks:
        if text and (text[-1].isdigit() and mark[0].isdigit() or text[-1].isalpha() and mark[0].isalpha()):
            text += " "
        text += " " * rng.choice((0, 0, 1, 2)) + mark
    return text + " " * rng.choice((0, 0, 1, 3))


def parts(marks, mark):
    """Return the parts of a sequence of marks between those that are a mark."""
    found = [[]]
    for item in marks:
        if item == mark:
            found.append([])
        else:
            found[-1].append(item)
    return found


def is_table_text(marks):
    """Return whether marks are those of the text of a table, as the words say."""
    types, kinds = [], set()
    for line in parts(marks, "\n"):
        if line:
            if ":" not in line:
                return False
            at = line.index(":")
            names = line[at + 1:]
            if at > 1 or (at == 0 and not names) or len(set(names)) < len(names):
                return False
            if not all(name.isalpha() and name.islower() and len(name) < 9 for name in line[:at] + names):
                return False
            types.extend(line[:at])
            kinds |= set(names)
    return len(set(types)) == len(types) <= 12 and 1 <= len(kinds) <= 8


def is_numeral(mark):
    """Return whether a mark is a numeral."""
    return mark.isdigit() and (mark == "0" or mark[0] != "0")


def is_pairs_text(marks, names):
    """Return whether marks are those of the text of a stock, or of bounds."""
    if not marks:
        return True
    found = []
    for part in parts(marks, ","):
        if len(part) != 2 or part[0] not in names or not is_numeral(part[1]) or int(part[1]) > 400:
            return False
        found.append(part[0])
    return len(set(found)) == len(found)


def is_row_text(marks, names):
    """Return whether marks are those of the text of a row."""
    total, many = 0, None
    for mark in marks:
        if mark in names:
            total += 1 if many is None else many
            many = None
        elif many is None and is_numeral(mark) and mark != "0":
            many = int(mark)
        else:
            return False
    return many is None and total <= 400


def is_log_text(marks, table):
    """Return whether marks are those of the text of a log."""
    lots = {name: [table.kinds[kind] for kind in lot] + ["-"] for name, lot in table.types}
    return not marks or all(len(part) == 2 and part[0] in lots and part[1] in lots[part[0]]
                            for part in parts(marks, ","))


class ReadTest(unittest.TestCase):
    def test_examples(self):
        self.assertEqual((('barn', 'cabin', 'loft', 'yurt'), (('any', (0, 1, 3)), ('dry', (0, 3)))),
                         (BARNS.kinds, BARNS.types))
        self.assertEqual(((11, 0, 0, 2), (None, 0)),
                         (read_stock(BARNS, "yurt 2, barn 11"), read_bounds(BARNS, "dry 0")))
        self.assertEqual(((1, 0, 0, 0, 1), ((0, 1), (1, None))),
                         (read_row(BARNS, "dry 3 any dry"), read_log(BARNS, "any cabin, dry -")))

    def test_tables(self):
        self.assertEqual(EMPTY, read_table(":a"))
        self.assertEqual(EMPTY, read_table("\n\n : a \n\n: a\n"))
        self.assertEqual(Table(("a",), (("a", ()), ("t", (0,)))), read_table("t:a\na:"))
        self.assertEqual(Table(("a",), (("a", ()), ("t", (0,)))), read_table("a:\nt:a\n"))
        self.assertEqual(Table(("abcdefgh", "b"), (("abcdefgh", (0, 1)),)), read_table("abcdefgh:b abcdefgh"))
        text = "\n".join(name + ":" for name in "abcdefghijkl") + "\n: a b c d e f g h"
        self.assertEqual((8, 12), (len(read_table(text).kinds), len(read_table(text).types)))

    def test_without_marks(self):
        for text in ("", " ", "    "):
            self.assertEqual((0, 0, 0, 0), read_stock(BARNS, text))
            self.assertEqual((None, None), read_bounds(BARNS, text))
            self.assertEqual((), read_row(BARNS, text))
            self.assertEqual(((), ()), read_log(BARNS, text))
            self.assertEqual(((), (), ((), ())), (read_bounds(EMPTY, text), read_row(EMPTY, text),
                                                  read_log(EMPTY, text)))
            self.assertEqual(("InvalidText", 0, len(text)), error_of(read_table, text))

    def test_numbers(self):
        for number in (0, 1, 9, 10, 99, 100, 399, 400):
            self.assertEqual((0, 0, 0, number), read_stock(BARNS, f"yurt {number}"))
            self.assertEqual((number, None), read_bounds(BARNS, f"any{number}"))
            if number:
                self.assertEqual((1,) * number, read_row(BARNS, f"{number}dry"))
        for numeral in ("401", "00", "01", "0400", "4000", "9" * 400, "0" * 400):
            self.assertEqual(("InvalidText", 0, 5), error_of(read_stock, BARNS, "yurt " + numeral))
            self.assertEqual(("InvalidText", 0, 4), error_of(read_bounds, BARNS, "any " + numeral))
            self.assertEqual(("InvalidText", 0, 0), error_of(read_row, BARNS, numeral + " any"))
        self.assertEqual(("InvalidText", 0, 0), error_of(read_row, BARNS, "0 any"))
        self.assertEqual((1,) * 400, read_row(BARNS, "1 dry 398 dry dry"))


class RefusedTest(unittest.TestCase):
    def test_no_strings(self):
        for value in SINGLES + ((), ("a",), ["a"], b": a"):
            if not isinstance(value, str):
                for function in (read_table, completed_table):
                    self.assertEqual(("InvalidText", -1, -1), error_of(function, value))
                for function in (read_stock, read_bounds, read_row, read_log, completed_stock, completed_bounds,
                                 completed_row, completed_log):
                    self.assertEqual(("InvalidText", -1, -1), error_of(function, BARNS, value))

    def test_that_the_document_names(self):
        self.assertEqual(("InvalidText", 0, 8), error_of(read_stock, SMALL, "a 1, b 2, a 3"))
        self.assertEqual(("InvalidText", 0, 4), error_of(read_table, "dry:"))
        self.assertEqual("dry:", completed_table("dry:")[:4])
        self.assertIsNone(error_of(read_table, completed_table("dry:")))

    def test_limits_of_tables(self):
        nine = "t: a b c d e f g h\n: a b\nu: c i"
        self.assertEqual(("InvalidText", 2, 5), error_of(read_table, nine))
        self.assertEqual(("InvalidText", 2, 5), error_of(completed_table, nine + " z"))
        thirteen = "\n".join(name + ":" for name in "abcdefghijklm")
        self.assertEqual(("InvalidText", 12, 0), error_of(read_table, thirteen))
        self.assertEqual(("InvalidText", 12, 1), error_of(read_table, thirteen[:-2] + " z: a"))
        self.assertEqual(("InvalidText", 12, 0), error_of(read_table, thirteen[:-2] + "a"))
        self.assertEqual(("InvalidText", 12, 0), error_of(read_table, thirteen[:-2]))
        self.assertIsNone(error_of(read_table, completed_table(thirteen[:-2])))
        self.assertEqual(("InvalidText", 0, 0), error_of(read_table, "abcdefghi: a"))
        self.assertEqual(("InvalidText", 0, 3), error_of(read_table, "t: abcdefghi"))
        self.assertEqual(("InvalidText", 1, 0), error_of(read_table, "t: a\nt: b"))
        self.assertEqual(("InvalidText", 0, 7), error_of(read_table, "t: a b a"))
        self.assertEqual(("InvalidText", 0, 1), error_of(read_table, ":\n: a"))
        self.assertEqual(("InvalidText", 0, 1), error_of(read_table, "t\n: a"))
        self.assertEqual(("InvalidText", 0, 5), error_of(read_table, "t: a,b".replace("a,", "ab,")))

    def test_completed_with_one_name(self):
        self.assertEqual(EMPTY, read_table(completed_table(":")))
        for text in ("t: a\n:", "t: a\n: ", "t: a\nu", "t: a\nu :", "t", "t:", "", "\n", "t: a\n"):
            self.assertEqual(("a",), read_table(completed_table(text)).kinds, text)
        one = Table(("a",), (("t", (0,)),))
        self.assertEqual((0, 0), read_row(one, completed_row(one, "t 1")))
        self.assertEqual((0,) * 400, read_row(one, completed_row(one, "t 399")))
        self.assertEqual((0, 0), read_log(one, completed_log(one, "t a,"))[0])
        self.assertEqual((0, 0), read_log(one, completed_log(one, "t a, t"))[0])
        self.assertEqual((("a",), (0,)), (one.kinds, read_stock(one, completed_stock(one, "a"))))
        self.assertEqual(("InvalidText", 0, 3), error_of(completed_stock, one, "a 3,"))

    def test_one_line(self):
        for function, text in ((read_stock, "a 1"), (read_bounds, "t 1"), (read_row, "t"), (read_log, "t a"),
                               (read_row, ""), (read_stock, ""), (read_bounds, ""), (read_log, "")):
            self.assertEqual(("InvalidText", 0, len(text)), error_of(function, SMALL, text + "\n"))

    def test_long_rows_and_logs(self):
        self.assertEqual(("InvalidText", 0, 800), error_of(read_row, SMALL, "t " * 401))
        self.assertEqual(400, len(read_row(SMALL, "t " * 400)))
        self.assertEqual(("InvalidText", 0, 8), error_of(read_row, SMALL, "399 t t u"))
        self.assertEqual(("InvalidText", 0, 6), error_of(read_row, SMALL, "400 t t"))
        self.assertEqual(("InvalidText", 0, 6), error_of(read_row, SMALL, "400 t 1 t"))
        self.assertEqual(("InvalidText", 0, 6), error_of(read_row, SMALL, "399 t 2 t"))
        self.assertEqual(("InvalidText", 0, 3), error_of(read_row, SMALL, "399"))
        self.assertEqual(("InvalidText", 0, 2), error_of(read_row, SMALL, "2 2 t"))
        log = ", ".join(["t b"] * 400)
        self.assertEqual(((0,) * 400, (1,) * 400), read_log(SMALL, log))
        self.assertEqual(("InvalidText", 0, len(log)), error_of(read_log, SMALL, log + ", t b"))
        self.assertEqual(log, completed_log(SMALL, log))
        self.assertEqual(("InvalidText", 0, 0), error_of(completed_row, EMPTY, "3"))
        self.assertEqual(("InvalidText", 0, 2), error_of(read_log, SMALL, "u b"))
        self.assertEqual(("InvalidText", 0, 2), error_of(read_log, SMALL, "v a"))
        self.assertEqual(((2,), (None,)), read_log(SMALL, "v-"))


class ByTheWordsTest(unittest.TestCase):
    """Each text is compared with what is found by trying all that it could go on with."""

    def check(self, rng, marks, alphabet, is_right, read, completed):
        text = joined_text(rng, marks)
        places = marks_of(text)
        self.assertEqual(list(marks), [mark for _, _, mark in places])
        fault = None
        for end, (line, at, _) in enumerate(places):
            tails = itertools.chain(*(itertools.product(alphabet, repeat=size) for size in range(4)))
            if not any(is_right(list(marks[:end + 1]) + list(tail)) for tail in tails):
                fault = ("InvalidText", line, at)
                break
        if fault is not None:
            self.assertEqual(fault, error_of(read, text), text)
            self.assertEqual(fault, error_of(completed, text), text)
            return
        if not is_right(list(marks)):
            end = ("InvalidText", text.count("\n"), len(text.split("\n")[-1]))
            self.assertEqual(end, error_of(read, text), text)
        else:
            self.assertIsNone(error_of(read, text), text)
        whole = completed(text)
        self.assertTrue(whole.startswith(text))
        self.assertEqual(places, marks_of(whole)[:len(places)])
        self.assertIsNone(error_of(read, whole), whole)
        self.assertTrue(is_right([mark for _, _, mark in marks_of(whole)]))

    def texts(self, rng, right, alphabet):
        """Return beginnings of right texts, and those with one mark changed, left out, put in or exchanged."""
        found = []
        for marks in right:
            marks = list(marks)
            end = rng.randint(0, len(marks))
            found.extend([marks, marks[:end]])
            found.append(marks[:end] + [rng.choice(alphabet)] + marks[end + 1:])
            found.append(marks[:end] + [rng.choice(alphabet)] + marks[end:])
            found.append(marks[:end] + marks[end + 1:])
            if len(marks) > 1:
                at = rng.randrange(len(marks) - 1)
                found.append(marks[:at] + [marks[at + 1], marks[at]] + marks[at + 2:])
        return found

    def test_tables(self):
        rng = random.Random(40)
        alphabet = ["a", "b", "c", ":", "\n", "1", ","]
        right = []
        while len(right) < 60:
            marks = []
            for _ in range(rng.randint(1, 4)):
                name = rng.choice(([], ["a"], ["b"], ["t"]))
                marks += name + [":"] + rng.sample(["a", "b", "c"], rng.randint(0, 3)) + ["\n"]
            if is_table_text(marks):
                right.append(marks[:-1] if rng.random() < 0.5 else marks)
        for marks in self.texts(rng, right, alphabet + ["abcdefghi", "A"]):
            self.check(rng, marks, alphabet, is_table_text, read_table, completed_table)

    def test_stocks_and_bounds(self):
        rng = random.Random(41)
        for names, read, completed in ((SMALL.kinds, read_stock, completed_stock),
                                       (("t", "u", "v"), read_bounds, completed_bounds)):
            alphabet = list(names) + ["0", "3", ","]
            right = []
            for _ in range(60):
                chosen = rng.sample(names, rng.randint(0, len(names)))
                pairs = [[name, rng.choice(("0", "400", "17"))] for name in chosen]
                right.append([mark for pair in pairs for mark in [","] + pair][1:])
            for marks in self.texts(rng, right, alphabet + ["401", "00", "x", ":", "\n", "-"]):
                self.check(rng, marks, alphabet, lambda found: is_pairs_text(found, names),
                           lambda text: read(SMALL, text), lambda text: completed(SMALL, text))

    def test_rows_and_logs(self):
        rng = random.Random(42)
        names = ["t", "u", "v"]
        right = [[mark for _ in range(rng.randint(0, 4)) for mark in rng.choice(([], ["3"], ["133"], ["1"]))
                  + [rng.choice(names)]] for _ in range(80)]
        for marks in self.texts(rng, right, names + ["0", "2", "401", "01", ",", "\n", "a"]):
            self.check(rng, marks, names + ["1"], lambda found: is_row_text(found, names),
                       lambda text: read_row(SMALL, text), lambda text: completed_row(SMALL, text))
        pairs = [["t", "a"], ["t", "b"], ["t", "-"], ["u", "a"], ["u", "-"], ["v", "-"]]
        right = [[mark for _ in range(rng.randint(0, 4)) for mark in [","] + rng.choice(pairs)][1:] for _ in range(80)]
        for marks in self.texts(rng, right, names + ["a", "b", "-", ",", "1", "\n"]):
            self.check(rng, marks, names + ["a", "b", "-", ","], lambda found: is_log_text(found, SMALL),
                       lambda text: read_log(SMALL, text), lambda text: completed_log(SMALL, text))

    def test_tables_without_types(self):
        rng = random.Random(43)
        for marks in ([], ["a"], ["1"], [","], ["-"], ["a", "1"]):
            self.check(rng, marks, ["a", "1", ","], lambda found: is_pairs_text(found, ()),
                       lambda text: read_bounds(EMPTY, text), lambda text: completed_bounds(EMPTY, text))
            self.check(rng, marks, ["a", "1", ","], lambda found: is_row_text(found, ()),
                       lambda text: read_row(EMPTY, text), lambda text: completed_row(EMPTY, text))
            self.check(rng, marks, ["a", "1", ","], lambda found: is_log_text(found, EMPTY),
                       lambda text: read_log(EMPTY, text), lambda text: completed_log(EMPTY, text))


class ReadAgainTest(unittest.TestCase):
    def test_the_thing_itself(self):
        rng = random.Random(44)
        for table in random_tables(200, 45, 8, 12):
            self.assertEqual(table, read_table(show_table(table)))
            stock = tuple(rng.choice((0, 0, 1, 7, 400)) for _ in table.kinds)
            self.assertEqual(stock, read_stock(table, show_stock(table, stock)))
            bounds = tuple(rng.choice((None, 0, 1, 10, 400)) for _ in table.types)
            self.assertEqual(bounds, read_bounds(table, show_bounds(table, bounds)))
            row = ()
            while table.types and rng.random() < 0.8:
                row += (rng.randrange(len(table.types)),) * rng.choice((1, 1, 2, 30))
            row = row[:400]
            self.assertEqual(row, read_row(table, show_row(table, row)))
            serving = tuple(rng.choice((None,) + table.types[request][1]) for request in row)
            self.assertEqual((row, serving), read_log(table, show_log(table, row, serving)))
            for text in (show_table(table), show_stock(table, stock), show_bounds(table, bounds),
                         show_row(table, row), show_log(table, row, serving)):
                self.assertNotIn("  ", text)
                self.assertEqual(text, text.strip())
                self.assertTrue(text == "" or "" not in text.split("\n"))

    def test_no_text_has_fewer_marks(self):
        alphabet = ["a", "b", "t", ":", "\n"]
        fewest = {}
        for size in range(7):
            for marks in itertools.product(alphabet, repeat=size):
                if is_table_text(list(marks)):
                    table = read_table(" ".join(marks))
                    fewest.setdefault((table.kinds, table.types), size)
        self.assertGreater(len(fewest), 20)
        for (kinds, types), size in fewest.items():
            self.assertEqual(size, len(marks_of(show_table(Table(kinds, types)))))
        rows = {}
        for size in range(6):
            for marks in itertools.product(["t", "u", "1", "2", "3"], repeat=size):
                if is_row_text(list(marks), ["t", "u"]):
                    rows.setdefault(read_row(SMALL, " ".join(marks)), size)
        for row, size in rows.items():
            # of more than three alike the shown text has a greater numeral than those tried
            self.assertLessEqual(len(marks_of(show_row(SMALL, row))), size)
            if "4" not in show_row(SMALL, row) and len(row) < 5:
                self.assertEqual(size, len(marks_of(show_row(SMALL, row))))


if __name__ == "__main__":
    unittest.main()
