"""Units in stocks, bounds behind requests, and stocks, rows and bounds of joined tables."""

from neverregret.basics import MOST_UNITS, changed_at, counts_of
from neverregret.errors import Refused


def units_in(stock, kinds):
    """Return how many units of these kinds a stock has."""
    return sum([stock[kind] for kind in kinds])


def unit_taken(stock, kind):
    """Return the stock with one unit less of a kind."""
    if stock[kind] == 0:
        raise Refused("unit")
    return changed_at(stock, kind, -1)


def unit_put(stock, kind):
    """Return the stock with one unit more of a kind."""
    if stock[kind] >= MOST_UNITS:
        raise Refused("units")
    return changed_at(stock, kind, 1)


def bounds_after(bounds, request):
    """Return the bounds behind a request."""
    if bounds[request] is None:
        return bounds
    if bounds[request] == 0:
        raise Refused("bound")
    return changed_at(bounds, request, -1)


def row_counts(table, row):
    """Return for each type how many requests of it a row has."""
    return counts_of(row, len(table.types))


def stock_moved(places, stock):
    """Return the stock of the joined kinds."""
    moved = [0] * many_joined(places)
    for kind, units in enumerate(stock):
        moved[places[kind]] += units
    return tuple(moved)


def row_moved(places, row):
    """Return the row of the joined types."""
    return tuple([places[request] for request in row])


def bounds_moved(places, bounds):
    """Return the bounds of the joined types."""
    moved = []
    for place in range(many_joined(places)):
        moved.append(bound_of_all([bounds[request] for request, new in enumerate(places) if new == place]))
    return tuple(moved)


def bound_of_all(bounds):
    """Return the sum of bounds, `None` if one of them is no bound."""
    return None if None in bounds else sum(bounds)


def many_joined(places):
    """Return how many joined kinds or types there are by the new numbers of all."""
    return max(places, default=-1) + 1
