"""Which kind is never worse than another one, found by trying all rows with fewer requests than units."""

from neverregret.errors import Refused
from neverregret.flows import missable_kinds, most_taken
from neverregret.plain import check_small, sorted_rows
from neverregret.stocks import row_counts


def rows_to_try(table, stock, bounds):
    """Return all rows that are enough to tell kinds apart, from a stock with units."""
    check_small(stock, sum(stock) - 1)
    return sorted_rows(table, bounds, sum(stock) - 1)


def missed_never(table, stock, row):
    """Return a dict with the kinds in stock without one unit of which as many requests of a row are served."""
    counts = row_counts(table, row)
    taken, left = most_taken(table, stock, counts, tuple(range(len(counts))))
    return missable_kinds(table, taken, left)


def first_worse_row(table, stock, bounds, one, other):
    """Return the first row that is served worse without a unit of one kind than without one of another, or `None`."""
    if stock[one] == 0 or stock[other] == 0:
        raise Refused("unit")
    for row in rows_to_try(table, stock, bounds):
        missable = missed_never(table, stock, row)
        if one not in missable and other in missable:
            return row
    return None


def never_worse(table, stock, bounds, one, other):
    """Return whether no row is served worse without a unit of one kind than without one of another."""
    return first_worse_row(table, stock, bounds, one, other) is None


def never_worse_pairs(table, stock, bounds):
    """Return the lot of all pairs of kinds with units of which the first one is never worse."""
    kinds = [kind for kind, units in enumerate(stock) if units > 0]
    pairs = [(one, other) for one in kinds for other in kinds]
    # without units there are no pairs to try
    for row in rows_to_try(table, stock, bounds) if kinds else ():
        missable = missed_never(table, stock, row)
        pairs = [(one, other) for one, other in pairs if one in missable or other not in missable]
    return tuple(pairs)
