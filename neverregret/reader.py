"""Texts read: tables, stocks, bounds, rows and logs; and texts completed."""

from neverregret.errors import InvalidText
from neverregret.lexer import marks_of
from neverregret.tables import kind_names, table_by_names, type_names
from neverregret.textsteps import LogSteps, PairSteps, RowSteps, TableSteps


def take_marks(steps, text):
    """Let steps take all marks of any value, or raise `InvalidText` for the first that they refuse."""
    if not isinstance(text, str):
        raise InvalidText(-1, -1)
    for line, at, mark in marks_of(text):
        if not steps.take(mark):
            raise InvalidText(line, at)


def take_text(steps, text):
    """Let steps take any value as a whole text, or raise `InvalidText`."""
    take_marks(steps, text)
    if steps.lack():
        raise InvalidText(text.count("\n"), len(text) - text.rfind("\n") - 1)


def completed_by(steps, text):
    """Return some text that the steps take whole, and that begins with any value, or raise `InvalidText`."""
    take_marks(steps, text)
    lack = steps.lack()
    # the blank keeps the last mark of the text from growing
    return text + " " + " ".join(lack) if lack else text


def log_steps(table):
    """Return the steps of a log for a table."""
    return LogSteps(type_names(table), kind_names(table), [lot for _, lot in table.types])


def read_table(text):
    """Return the table that a text tells."""
    steps = TableSteps()
    take_text(steps, text)
    return table_by_names(steps.kinds, steps.lots)


def read_stock(table, text):
    """Return the stock that a text tells."""
    steps = PairSteps(kind_names(table))
    take_text(steps, text)
    return tuple([steps.numbers.get(name, 0) for name in steps.names])


def read_bounds(table, text):
    """Return the bounds that a text tells."""
    steps = PairSteps(type_names(table))
    take_text(steps, text)
    return tuple([steps.numbers.get(name, None) for name in steps.names])


def read_row(table, text):
    """Return the row that a text tells."""
    steps = RowSteps(type_names(table))
    take_text(steps, text)
    return tuple(steps.row)


def read_log(table, text):
    """Return the row and the serving that a text tells."""
    steps = log_steps(table)
    take_text(steps, text)
    return tuple(steps.row), tuple(steps.serving)


def completed_table(text):
    """Return some text of a table that begins with a text."""
    return completed_by(TableSteps(), text)


def completed_stock(table, text):
    """Return some text of a stock that begins with a text."""
    return completed_by(PairSteps(kind_names(table)), text)


def completed_bounds(table, text):
    """Return some text of bounds that begins with a text."""
    return completed_by(PairSteps(type_names(table)), text)


def completed_row(table, text):
    """Return some text of a row that begins with a text."""
    return completed_by(RowSteps(type_names(table)), text)


def completed_log(table, text):
    """Return some text of a log that begins with a text."""
    return completed_by(log_steps(table), text)
