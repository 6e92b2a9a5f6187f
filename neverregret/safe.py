"""Kinds that are safe to hand out: never worse than another one, whatever comes within bounds."""

from neverregret.errors import Refused
from neverregret.full import greatest_full
from neverregret.tables import kinds_of_types


def unit_kinds(stock):
    """Return the lot of the kinds of which a stock has units."""
    return tuple([kind for kind, units in enumerate(stock) if units > 0])


def check_units(stock, kinds):
    """Raise `Refused("unit")` unless there is a unit of each of these kinds."""
    if any([stock[kind] == 0 for kind in kinds]):
        raise Refused("unit")


def worse_kinds(table, stock, bounds, kind):
    """Return the lot of the kinds with units that are not safe against a kind."""
    check_units(stock, (kind,))
    used_up = kinds_of_types(table, greatest_full(table, stock, bounds, kind))
    return tuple([other for other in used_up if stock[other] > 0])


def is_safe(table, stock, bounds, one, other):
    """Return whether one kind is safe against another one."""
    check_units(stock, (one, other))
    return one not in worse_kinds(table, stock, bounds, other)


def worse_by_kind(table, stock, bounds, kinds):
    """Return a dict with the kinds that are not safe against it for each of some kinds with units."""
    return {kind: worse_kinds(table, stock, bounds, kind) for kind in kinds}


def safe_pairs(table, stock, bounds):
    """Return the lot of all pairs of kinds with units of which the first one is safe against the second one."""
    kinds = unit_kinds(stock)
    worse = worse_by_kind(table, stock, bounds, kinds)
    return tuple([(one, other) for one in kinds for other in kinds if one not in worse[other]])


def safe_groups(table, stock, bounds):
    """Return the kinds with units in lots in which each one is safe against each other, by their first kinds."""
    pairs = safe_pairs(table, stock, bounds)
    kinds = unit_kinds(stock)
    groups = []
    for kind in kinds:
        group = tuple([other for other in kinds if (kind, other) in pairs and (other, kind) in pairs])
        if group[0] == kind:
            groups.append(group)
    return tuple(groups)


def does_beat(worse, one, other):
    """Return whether one kind beats another one, told by the kinds that are not safe against each."""
    return one not in worse[other] and other in worse[one]


def handing_order(table, stock, bounds):
    """Return the least tuple of all kinds with units in which each one stands ahead of all that it beats."""
    waiting = list(unit_kinds(stock))
    worse = worse_by_kind(table, stock, bounds, waiting)
    order = []
    while waiting:
        # what beats never goes in a circle, so that one of those that wait is unbeaten by them
        unbeaten = [kind for kind in waiting if not any([does_beat(worse, other, kind) for other in waiting])]
        order.append(unbeaten[0])
        waiting.remove(unbeaten[0])
    return tuple(order)
