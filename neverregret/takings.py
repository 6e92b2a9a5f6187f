"""Takings: how many units of each kind go to requests of each type."""

from neverregret.basics import are_numbers, is_tuple_of
from neverregret.flows import most_taken
from neverregret.tables import accepted


def is_taking(table, stock, bounds, value):
    """Return whether any value is a taking."""
    if not is_tuple_of(value, len(table.types)):
        return False
    for request, units in enumerate(value):
        if not are_numbers(units, len(table.kinds)):
            return False
        if any([number > 0 and kind not in accepted(table, request) for kind, number in enumerate(units)]):
            return False
        if bounds[request] is not None and sum(units) > bounds[request]:
            return False
    by_kind = units_by_kind(table, value)
    return all([taken <= units for taken, units in zip(by_kind, stock)])


def units_by_kind(table, taking):
    """Return how many units of each kind are taken."""
    return tuple([sum([units[kind] for units in taking]) for kind in range(len(table.kinds))])


def taken_units(taking):
    """Return how many units are taken in all."""
    return sum([sum(units) for units in taking])


def greatest_taking(table, stock, bounds, types):
    """Return some taking by types of a lot alone that takes as many units as any."""
    taken, _ = most_taken(table, stock, bounds, types)
    return tuple([tuple(units) for units in taken])


def taking_row(taking):
    """Return the ascending row with a request for each unit that a type takes, and its serving."""
    row = []
    serving = []
    for request, units in enumerate(taking):
        for kind, number in enumerate(units):
            row.extend([request] * number)
            serving.extend([kind] * number)
    return tuple(row), tuple(serving)
