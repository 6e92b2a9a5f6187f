"""What a text may go on with, mark by mark.

Each class follows the marks of one kind of text. `take(mark)` returns whether some such text goes on with a
mark, and if so takes it; `lack()` returns marks with which what was taken is such a text, none if it is one.
"""

from neverregret.basics import MOST_KINDS, MOST_REQUESTS, MOST_TYPES, MOST_UNITS, is_name
from neverregret.lexer import DIGITS

MOST_DIGITS = 3


def numeral_worth(word, most):
    """Return the number of a numeral up to a number of at most three digits, -1 for any other word."""
    if len(word) > MOST_DIGITS or not all([sign in DIGITS for sign in word]):
        return -1
    if word[0] == "0" and word != "0":
        return -1
    return int(word) if int(word) <= most else -1


class TableSteps:
    """The text of a table."""

    def __init__(self):
        self.kinds = []
        self.lots = {}
        self.line = []
        # of a line: nothing yet, the name of a type, and whether `:` has come
        self.name = None
        self.behind_colon = False

    def take(self, mark):
        """Take a mark if some text goes on with it."""
        if self.behind_colon:
            return self.take_line_end() if mark == "\n" else self.take_kind(mark)
        if mark == ":":
            self.behind_colon = True
            return True
        if self.name is not None:
            return False
        if mark == "\n":
            return True
        if not is_name(mark) or mark in self.lots or len(self.lots) == MOST_TYPES:
            return False
        self.name = mark
        self.lots[mark] = ()
        return True

    def take_kind(self, mark):
        """Take the name of a kind if the line goes on with it."""
        if not is_name(mark) or mark in self.line:
            return False
        if mark not in self.kinds:
            if len(self.kinds) == MOST_KINDS:
                return False
            self.kinds.append(mark)
        self.line.append(mark)
        if self.name is not None:
            self.lots[self.name] = tuple(self.line)
        return True

    def take_line_end(self):
        """Take the newline behind a line if it is complete: a line of kinds names one at least."""
        if self.name is None and not self.line:
            return False
        self.line = []
        self.name = None
        self.behind_colon = False
        return True

    def lack(self):
        """Return marks that complete the text."""
        if self.behind_colon:
            is_complete = self.kinds and (self.name is not None or self.line)
            return () if is_complete else (self.some_kind(),)
        if self.name is not None:
            return (":",) if self.kinds else (":", self.some_kind())
        return () if self.kinds else (":", self.some_kind())

    def some_kind(self):
        """Return a kind that a line without kinds can have."""
        return self.kinds[0] if self.kinds else "a"


class PairSteps:
    """The text of a stock, or of bounds: names, each once, with a numeral each."""

    def __init__(self, names):
        self.names = names
        self.numbers = {}
        self.name = None
        self.wants_name = True

    def take(self, mark):
        """Take a mark if some text goes on with it."""
        if self.name is not None:
            return self.take_numeral(mark)
        if self.wants_name:
            if mark not in self.names or mark in self.numbers:
                return False
            self.name = mark
            return True
        if mark != "," or len(self.numbers) == len(self.names):
            return False
        self.wants_name = True
        return True

    def take_numeral(self, mark):
        """Take the numeral of the last name."""
        number = numeral_worth(mark, MOST_UNITS)
        if number == -1:
            return False
        self.numbers[self.name] = number
        self.name = None
        self.wants_name = False
        return True

    def lack(self):
        """Return marks that complete the text."""
        if self.name is not None:
            return ("0",)
        if not self.wants_name or not self.numbers:
            return ()
        return [name for name in self.names if name not in self.numbers][0], "0"


class RowSteps:
    """The text of a row."""

    def __init__(self, names):
        self.names = names
        self.row = []
        self.many = None

    def take(self, mark):
        """Take a mark if some text goes on with it."""
        if mark in self.names:
            many = 1 if self.many is None else self.many
            if len(self.row) + many > MOST_REQUESTS:
                return False
            self.row.extend([self.names.index(mark)] * many)
            self.many = None
            return True
        many = numeral_worth(mark, MOST_REQUESTS - len(self.row))
        if self.many is not None or not self.names or many < 1:
            return False
        self.many = many
        return True

    def lack(self):
        """Return marks that complete the text."""
        return () if self.many is None else (self.names[0],)


class LogSteps:
    """The text of a log, of types with names that accept kinds with names each."""

    def __init__(self, names, kinds, lots):
        self.names = names
        self.kinds = kinds
        self.lots = lots
        self.row = []
        self.serving = []
        self.wants_name = True

    def take(self, mark):
        """Take a mark if some text goes on with it."""
        if len(self.serving) < len(self.row):
            return self.take_kind(mark)
        if self.wants_name:
            if mark not in self.names:
                return False
            self.row.append(self.names.index(mark))
            self.wants_name = False
            return True
        if mark != "," or len(self.row) == MOST_REQUESTS:
            return False
        self.wants_name = True
        return True

    def take_kind(self, mark):
        """Take the kind, or `-`, of the last request."""
        if mark == "-":
            self.serving.append(None)
            return True
        if mark not in self.kinds or self.kinds.index(mark) not in self.lots[self.row[-1]]:
            return False
        self.serving.append(self.kinds.index(mark))
        return True

    def lack(self):
        """Return marks that complete the text."""
        if len(self.serving) < len(self.row):
            return ("-",)
        if self.wants_name and self.row:
            return self.names[0], "-"
        return ()
