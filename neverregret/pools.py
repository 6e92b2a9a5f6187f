"""Pools: tables of kinds with equal takers or none in common, with which all rules serve alike."""

from neverregret.leastkinds import offered_kinds
from neverregret.stocks import units_in
from neverregret.tables import accepted, takers


def unlike_kinds(table, stock):
    """Return a type and two kinds with units that it accepts, the second with a taker that the first lacks.

    Return `None` if there are none.
    """
    for request in range(len(table.types)):
        kinds = offered_kinds(table, stock, request)
        for one in kinds:
            for other in kinds:
                if taker_of_other(table, one, other) is not None:
                    return request, one, other
    return None


def taker_of_other(table, one, other):
    """Return the first taker of the other kind that does not accept the one, or `None`."""
    for request in takers(table, other):
        if one not in accepted(table, request):
            return request
    return None


def are_pools(table, stock):
    """Return whether any two kinds with units have equal takers or no common ones."""
    return unlike_kinds(table, stock) is None


def unlike_rules(table, stock):
    """Return `None` for pools, otherwise a row and two orders that serve unlike numbers of its requests."""
    found = unlike_kinds(table, stock)
    if found is None:
        return None
    request, one, other = found
    taker = taker_of_other(table, one, other)
    # the later requests could have all units that their type accepts, unless the first one has got one of these
    row = (request,) + (taker,) * units_in(stock, accepted(table, taker))
    return row, orders_with_first(table, request, one), orders_with_first(table, request, other)


def orders_with_first(table, request, kind):
    """Return the orders in which kinds ascend, but one stands first in the order of a type."""
    orders = [lot for _, lot in table.types]
    orders[request] = (kind,) + tuple([other for other in orders[request] if other != kind])
    return tuple(orders)
