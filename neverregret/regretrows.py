"""Rows of requests that tell kinds apart: behind one kind handed out fewer are served than behind another one."""

from neverregret.basics import are_numbers_below
from neverregret.full import full_row, greatest_full
from neverregret.plain import row_within
from neverregret.safe import check_units
from neverregret.tables import kinds_of_types
from neverregret.wanted import needed_kinds


def tells_apart(table, stock, one, other, row):
    """Return whether a row tells two kinds apart."""
    check_units(stock, (one, other))
    # without a unit that is not needed as many are served as ever
    needed = needed_kinds(table, stock, row)
    return one in needed and other not in needed


def is_regret_row(table, stock, bounds, one, other, value):
    """Return whether any value is a row of any length within bounds that tells two kinds apart."""
    check_units(stock, (one, other))
    if not is_row_within(table, bounds, value):
        return False
    return tells_apart(table, stock, one, other, value)


def is_row_within(table, bounds, value):
    """Return whether any value is a tuple of numbers of types within bounds."""
    return are_numbers_below(value, len(table.types)) and row_within(table, bounds, value)


def regret_row(table, stock, bounds, one, other):
    """Return some row that tells two kinds apart, all served without a unit of the other kind, or `None`."""
    check_units(stock, (one, other))
    types = greatest_full(table, stock, bounds, other)
    if one not in kinds_of_types(table, types):
        return None
    return full_row(table, stock, bounds, types)[0]
