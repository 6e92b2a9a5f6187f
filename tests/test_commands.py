"""[84] Commands and [85] their texts."""

import itertools
import random
import unittest

from helpers import SINGLES, Bag, Unfriendly, error_of, odd_values
from neverregret.commands import is_command, read_commands, show_command, show_commands
from neverregret.tables import Table

TABLE = Table(("a", "b", "loft"), (("any", (0, 1)), ("come", ()), ("light", (0, 2))))
BARE = Table(("a",), ())
RIGHT = (
    ("come", 0), ("moving", 2), ("leave", 0), ("leave", 399), ("bounds", (None, None, None)),
    ("bounds", (0, None, 400)), ("court",), ("most", ()), ("most", (0, 0, 2, 1)), ("most", (2,) * 400), ("safe", 0, 2), ("safe", 1, 1),
    ("choice", 1), ("repair", "kinds"), ("repair", "types"), ("repair", "accepted"))
LINES = ("come any", "moving light", "leave 0", "leave 399", "bounds", "bounds any 0, light 400", "court", "most",
         "most 2 any light come", "most 400 light", "safe a loft", "safe b b", "choice come", "repair kinds",
         "repair types", "repair accepted")


class CommandTest(unittest.TestCase):
    def test_right(self):
        for command in RIGHT:
            self.assertIs(True, is_command(TABLE, command), command)
        for command in (("court",), ("most", ()), ("bounds", ()), ("leave", 5), ("safe", 0, 0), ("repair", "types")):
            self.assertTrue(is_command(BARE, command))

    def test_wrong(self):
        for command in (("come", 3), ("come", -1), ("come",), ("come", 0, 0), ("moving", 3), ("leave", 400),
                        ("leave", -1), ("bounds", (None, None)), ("bounds", (None, None, 401)), ("bounds", [None] * 3), ("court", 0),
                        ("court", None), ("court", ()), ("most", (3,)), ("most", (0,) * 401), ("most", [0]), ("most",),
                        ("safe", 0), ("safe", 0, 3), ("safe", 0, 1, 2), ("safe", (0, 1)), ("choice", 3), ("choice",),
                        ("repair", "kind"), ("repair", ""), ("repair", ("kinds",)), ("repair",), ("go", 0), ("", 0),
                        ("Court",), ["court"], "court", ("repair", "kinds", ()), ("most", "any"), ("come", "any")):
            self.assertIs(False, is_command(TABLE, command), command)
        for word in ("come", "moving", "choice"):
            self.assertFalse(is_command(BARE, (word, 0)))

    def test_other_values(self):
        for value in odd_values() + ((), Bag(), (Unfriendly(),), (Unfriendly(), 0), (None, 0), (True, 0),
                                     (("come",), 0)):
            self.assertIs(False, is_command(TABLE, value))
        for word in ("come", "moving", "leave", "bounds", "most", "choice", "repair"):
            for item in SINGLES:
                self.assertIs(False, is_command(TABLE, (word, item)))
                self.assertFalse(is_command(TABLE, (word, (item,) * 3)) and item is not None)
        for item in SINGLES:
            self.assertFalse(is_command(TABLE, ("safe", 0, item)))
            self.assertFalse(is_command(TABLE, ("safe", item, 0)))
            self.assertFalse(is_command(TABLE, ("court", item)))


class ReadingTest(unittest.TestCase):
    def test_right(self):
        for command, line in zip(RIGHT, LINES):
            self.assertEqual((command,), read_commands(TABLE, line), line)
            self.assertEqual((command,), read_commands(TABLE, "   " + line.replace(" ", "   ") + "  "), line)
        self.assertEqual(RIGHT, read_commands(TABLE, "\n".join(LINES)))
        self.assertEqual(RIGHT, read_commands(TABLE, "\n\n" + "\n  \n".join(LINES) + "\n"))

    def test_empty(self):
        for text in ("", " ", "\n", "\n  \n\n   "):
            self.assertEqual((), read_commands(TABLE, text))
        self.assertEqual((("court",), ("most", ()), ("bounds", ())), read_commands(BARE, "court\nmost\nbounds"))

    def test_texts_within(self):
        self.assertEqual((("bounds", (1, None, 2)),), read_commands(TABLE, "bounds light2,any 1"))
        self.assertEqual((("most", (0, 0, 0, 1)),), read_commands(TABLE, "most 3any come"))
        self.assertEqual((("come", 1),), read_commands(TABLE, "come come"))

    def test_numerals(self):
        self.assertEqual((("leave", 399),), read_commands(TABLE, "leave 399"))
        many = "9" * 400
        for text in ("leave 400", "leave 00", "leave 01", "leave 0399", "leave -1", "leave +1", "leave 1.0",
                     "leave one", "leave " + many, "leave " + many * 20, "leave " + "0" * 400, "leave 1 2", "leave", "leave 1,",
                     "bounds any 401", "bounds any " + many, "bounds any " + many * 20, "bounds any 00",
                     "most 401 any", "most " + many + " any", "most " + many * 20 + " any", "most 0 any", "most 01 any",
                     "most 400 any any", "most 3", "most 399 any 2 any"):
            self.assertEqual(("InvalidText", 0, 0), error_of(read_commands, TABLE, text), text[:30])
            self.assertEqual(("InvalidText", 2, 0), error_of(read_commands, TABLE, "court\n\n" + text + "\ngo"))

    def test_wrong(self):
        for text in ("come", "come a", "come any light", "come any,", "comeany", "come Any", "come 0", "moving",
                     "choice", "choice loft", "court any", "court court", "courts", "Court", "cour", "any", ":", "0", "-",
                     "bounds any", "bounds any 1,", "bounds any 1 light 2", "bounds loft 1", "bounds any 1, any 2",
                     "boundsany 1", "bounds, any 1", "most loft", "most any,", "most2 any", "mostany", "most -",
                     "safe", "safe a", "safe a b loft", "safe a, b", "safe a any", "safe 0 1", "safe a ab",
                     "repair", "repair kind", "repair kinds types", "repair any", "repairkinds", "come any; court",
                     "serve any a", "refuse any", "move", "come any:"):
            self.assertEqual(("InvalidText", 0, 0), error_of(read_commands, TABLE, text), text)
            self.assertEqual(("InvalidText", 1, 0), error_of(read_commands, TABLE, "\n  " + text + "\ncourt\n" + text))
        for word in ("come", "moving", "choice"):
            self.assertEqual(("InvalidText", 0, 0), error_of(read_commands, BARE, word + " any"))

    def test_other_values(self):
        for value in odd_values():
            if not isinstance(value, str):
                self.assertEqual(("InvalidText", -1, -1), error_of(read_commands, TABLE, value))
        for value in (b"court", ("court",), ["court"]):
            self.assertEqual(("InvalidText", -1, -1), error_of(read_commands, TABLE, value))

    def test_all_short_lines(self):
        # each line of these words is a command exactly if it is shown as the line of one
        words = ("come", "safe", "leave", "most", "court", "any", "a", "b", "0", "7", "bounds", "repair", "kinds", ",")
        commands = [(word, number) for word in ("come", "leave") for number in range(400)]
        commands += [("court",), ("bounds", (None,) * 3), ("repair", "kinds")]
        commands += [("safe", one, other) for one in range(3) for other in range(3)]
        commands += [("bounds", bounds) for bounds in itertools.product((None, 0, 7), repeat=3)]
        commands += [("most", row) for row in ((), (0,), (1,), (0, 0), (0, 1), (1, 0), (1, 1), (0,) * 7, (1,) * 7)]
        lines = {show_command(TABLE, command) for command in commands if is_command(TABLE, command)}
        for size in (1, 2, 3):
            for parts in itertools.product(words, repeat=size):
                line = " ".join(parts).replace(" ,", ",")
                error = error_of(read_commands, TABLE, line)
                self.assertEqual(error is None, line in lines or line in ("most any any", "most come come"), line)


class ShowingTest(unittest.TestCase):
    def test_lines(self):
        self.assertEqual(list(LINES), [show_command(TABLE, command) for command in RIGHT])
        self.assertEqual("\n".join(LINES), show_commands(TABLE, RIGHT))
        self.assertEqual(("", "court"), (show_commands(TABLE, ()), show_commands(TABLE, (("court",),))))
        self.assertEqual("most 3 light any light", show_command(TABLE, ("most", (2, 2, 2, 0, 2))))

    def test_read_again(self):
        rng = random.Random(850)
        for _ in range(300):
            commands = []
            for _ in range(rng.randint(0, 5)):
                word = rng.choice(("come", "moving", "choice", "leave", "bounds", "court", "most", "safe", "repair"))
                if word in ("come", "moving", "choice"):
                    commands.append((word, rng.randrange(3)))
                elif word == "leave":
                    commands.append((word, rng.randrange(400)))
                elif word == "bounds":
                    commands.append((word, tuple(rng.choice((None, 0, 1, 400)) for _ in range(3))))
                elif word == "most":
                    commands.append((word, tuple(rng.randrange(3) for _ in range(rng.randint(0, 9)))))
                elif word == "safe":
                    commands.append((word, rng.randrange(3), rng.randrange(3)))
                else:
                    commands.append((word,) if word == "court" else (word, rng.choice(("kinds", "types", "accepted"))))
            text = show_commands(TABLE, tuple(commands))
            self.assertTrue(all(is_command(TABLE, command) for command in commands))
            self.assertEqual(tuple(commands), read_commands(TABLE, text))
            for line in text.split("\n"):
                self.assertEqual(line, " ".join(line.split()))


if __name__ == "__main__":
    unittest.main()
