"""Lots of types that clear a refusal: they show that it is no regret."""

from neverregret.basics import is_lot_below
from neverregret.errors import Refused
from neverregret.plain import is_refused_place, left_stock
from neverregret.tables import kinds_of_types


def check_refusal(serving, place):
    """Raise `Refused("place")` unless any value is a place of a refusal."""
    if not is_refused_place(serving, place):
        raise Refused("place")


def are_all_handed(table, stock, row, serving, place, types):
    """Return whether all units that types accept were handed out before a place to requests of these types."""
    theirs = []
    for request, kind in zip(row[:place], serving[:place]):
        theirs.append(kind if request in types else None)
    left = left_stock(stock, theirs)
    return all([left[kind] == 0 for kind in kinds_of_types(table, types)])


def refusal_lot(table, stock, row, serving, place):
    """Return the least lot that clears a refusal, `None` if it is a regret."""
    check_refusal(serving, place)
    left = left_stock(stock, serving[:place])
    types = ()
    wider = (row[place],)
    while wider != types:
        types = wider
        kinds = kinds_of_types(table, types)
        if any([left[kind] > 0 for kind in kinds]):
            return None
        # a lot that clears has all types that got a unit of a kind that it accepts
        more = [request for request, kind in zip(row[:place], serving[:place]) if kind in kinds]
        wider = tuple(sorted(set(list(types) + more)))
    return types


def is_refusal_lot(table, stock, row, serving, place, value):
    """Return whether any value is a lot that clears a refusal."""
    check_refusal(serving, place)
    if not is_lot_below(value, len(table.types)) or row[place] not in value:
        return False
    return are_all_handed(table, stock, row, serving, place, value)


def refusal_lots(table, stock, row, serving):
    """Return a dict with the least lot that clears it, or `None`, for each place of a refusal."""
    lots = {}
    for place, kind in enumerate(serving):
        if kind is None:
            lots[place] = refusal_lot(table, stock, row, serving, place)
    return lots
