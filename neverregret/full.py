"""Full lots: types that can take all units that they accept."""

from neverregret.basics import all_lots, is_lot_below
from neverregret.errors import Refused
from neverregret.gaps import types_outside, worst_gap
from neverregret.takings import greatest_taking, taking_row
from neverregret.tables import types_without

MOST_TYPES_TRIED = 8


def is_full(table, stock, bounds, value):
    """Return whether any value is a full lot of types."""
    return is_lot_below(value, len(table.types)) and is_full_lot(table, stock, bounds, value)


def is_full_lot(table, stock, bounds, types):
    """Return whether a lot of types is full."""
    return not worst_gap(table, stock, bounds, types)


def full_row(table, stock, bounds, types):
    """Return a row of requests of a full lot and a serving of it that hands out all units that the lot accepts."""
    if not is_full_lot(table, stock, bounds, types):
        raise Refused("full")
    return taking_row(greatest_taking(table, stock, bounds, types))


def full_lots(table, stock, bounds):
    """Return the lot of all full lots."""
    if len(table.types) > MOST_TYPES_TRIED:
        raise Refused("size")
    return tuple([lot for lot in all_lots(len(table.types)) if is_full_lot(table, stock, bounds, lot)])


def full_cores(table, stock, bounds):
    """Return the lot of the full lots that are no union of other full lots."""
    lots = full_lots(table, stock, bounds)
    return tuple([lot for lot in lots if len(union_within(lots, lot)) < len(lot)])


def union_within(lots, whole):
    """Return the union of those of the lots that are within a lot, but not equal to it."""
    found = {}
    for lot in lots:
        if len(lot) < len(whole) and all([request in whole for request in lot]):
            found.update({request: True for request in lot})
    return tuple(sorted(found))


def greatest_within(table, stock, bounds, types):
    """Return the full lot within a lot of types that has all full lots within it in it."""
    return types_outside(table, types, worst_gap(table, stock, bounds, types))


def greatest_full(table, stock, bounds, kind):
    """Return the greatest full lot within the types that do not accept a kind."""
    return greatest_within(table, stock, bounds, types_without(table, kind))
