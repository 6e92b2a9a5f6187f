"""How it changes which kinds are safe if bounds fall or units come, and one row that decides it."""

from neverregret.basics import MOST_UNITS
from neverregret.safe import check_units, is_safe
from neverregret.stocks import units_in
from neverregret.tables import accepted, types_without
from neverregret.wanted import needed_kinds


def are_lesser(bounds, others):
    """Return whether bounds are, type by type, at most other ones."""
    return all([other is None or (bound is not None and bound <= other) for bound, other in zip(bounds, others)])


def deciding_row(table, stock, bounds, kind):
    """Return the ascending row of all requests that can come without the kind, as far as units can be had."""
    row = []
    for request in types_without(table, kind):
        many = units_in(stock, accepted(table, request))
        if bounds[request] is not None:
            many = min(many, bounds[request])
        row.extend([request] * many)
    return tuple(row)


def worse_by_row(table, stock, bounds, kind):
    """Return the lot of the kinds with units that are needed for the deciding row of a kind."""
    check_units(stock, (kind,))
    return needed_kinds(table, stock, deciding_row(table, stock, bounds, kind))


def turning_bound(table, stock, bounds, one, other, request):
    """Return the least bound of a type with which one kind is not safe against another one, or `None`."""
    if is_safe(table, stock, bounds[:request] + (None,) + bounds[request + 1:], one, other):
        return None
    low = 0
    # no more requests of the type than units that it accepts can make a difference
    high = units_in(stock, accepted(table, request))
    while low < high:
        middle = (low + high) // 2
        if is_safe(table, stock, bounds[:request] + (middle,) + bounds[request + 1:], one, other):
            low = middle + 1
        else:
            high = middle
    return low


def turning_units(table, stock, bounds, one, other, kind):
    """Return the greatest number of units of a kind with which one kind is not safe against another, or `None`."""
    check_units(stock, (one, other))
    low = 1 if kind == one or kind == other else 0
    if is_safe(table, stock[:kind] + (low,) + stock[kind + 1:], bounds, one, other):
        return None
    high = MOST_UNITS
    while low < high:
        middle = (low + high + 1) // 2
        if is_safe(table, stock[:kind] + (middle,) + stock[kind + 1:], bounds, one, other):
            high = middle - 1
        else:
            low = middle
    return low
