"""Takings: how many units of each kind go to requests of each type."""

from neverregret.basics import is_number, is_tuple_of
from neverregret.flows import nothing_taken, take_most
from neverregret.stocks import units_in
from neverregret.tables import accepted


def is_taking(table, stock, bounds, value):
    """Return whether any value is a taking."""
    if not is_tuple_of(value, len(table.types)):
        return False
    for request, units in enumerate(value):
        if not is_tuple_of(units, len(table.kinds)) or not all([is_number(number) for number in units]):
            return False
        if any([number > 0 and kind not in accepted(table, request) for kind, number in enumerate(units)]):
            return False
        if bounds[request] is not None and sum(units) > bounds[request]:
            return False
    by_kind = units_by_kind(table, value)
    return all([taken <= units for taken, units in zip(by_kind, stock)])


def units_by_kind(table, taking):
    """Return how many units of each kind are taken."""
    return tuple([sum([units[kind] for units in taking]) for kind in range(len(table.kinds))])


def taken_units(taking):
    """Return how many units are taken in all."""
    return sum([sum(units) for units in taking])


def greatest_taking(table, stock, bounds, types):
    """Return some taking by types of a lot alone that takes as many units as any."""
    taken = nothing_taken(table)
    left = list(stock)
    # a type that finds no way finds none later either, so that one turn for each is enough
    for request in types:
        most = units_in(stock, accepted(table, request))
        if bounds[request] is not None:
            most = min(most, bounds[request])
        take_most(table, taken, left, request, most)
    return tuple([tuple(units) for units in taken])


def taking_row(taking):
    """Return the ascending row with a request for each unit that a type takes, and its serving."""
    row = []
    serving = []
    for request, units in enumerate(taking):
        for kind, number in enumerate(units):
            row.extend([request] * number)
            serving.extend([kind] * number)
    return tuple(row), tuple(serving)
