"""Gaps: lots of kinds with more units than the types that accept them can take."""

from neverregret.basics import is_lot_below
from neverregret.stocks import units_in
from neverregret.takings import greatest_taking, taken_units, units_by_kind
from neverregret.tables import accepted, kinds_of_types


def takers_among(table, types, kinds):
    """Return the lot of those of the types that accept some of the kinds."""
    return tuple([request for request in types if any([kind in accepted(table, request) for kind in kinds])])


def types_outside(table, types, kinds):
    """Return the lot of those of the types that accept none of the kinds."""
    takers_of_some = takers_among(table, types, kinds)
    return tuple([request for request in types if request not in takers_of_some])


def lack_of(table, stock, bounds, types, kinds):
    """Return the lack of a lot of accepted kinds, `None` if one of its takers has no bound."""
    limits = [bounds[request] for request in takers_among(table, types, kinds)]
    if None in limits:
        return None
    return units_in(stock, kinds) - sum(limits)


def greatest_lack(table, stock, bounds, types):
    """Return the greatest lack of all lots of accepted kinds."""
    taking = greatest_taking(table, stock, bounds, types)
    return units_in(stock, kinds_of_types(table, types)) - taken_units(taking)


def worst_gap(table, stock, bounds, types):
    """Return the lot that has the greatest lack and no lesser part that has it."""
    return gap_of_taking(table, stock, types, greatest_taking(table, stock, bounds, types))


def gap_of_taking(table, stock, types, taking):
    """Return the worst gap of types, told by some greatest taking by them."""
    taken = units_by_kind(table, taking)
    kinds = tuple([kind for kind in kinds_of_types(table, types) if taken[kind] < stock[kind]])
    # What takes units of the lot takes all that it can: whatever else it takes would be left over as well if it
    # took these units instead, so that it lacks too.
    while True:
        full = takers_among(table, types, kinds)
        more = [kind for request in full for kind, number in enumerate(taking[request]) if number > 0]
        wider = tuple(sorted(set(list(kinds) + more)))
        if wider == kinds:
            return kinds
        kinds = wider


def is_gap(table, stock, bounds, types, value):
    """Return whether any value is a gap."""
    if not is_lot_below(value, len(stock)) or not value:
        return False
    # With no other units in stock, the worst gap is the least part of the lot with the greatest lack. It has
    # accepted kinds alone.
    alone = tuple([units if kind in value else 0 for kind, units in enumerate(stock)])
    return worst_gap(table, alone, bounds, types) == value
