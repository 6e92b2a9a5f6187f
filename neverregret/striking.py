"""What can be struck from a table, and without which no two kinds cross: kinds, types or single acceptances."""

from neverregret.basics import is_ascending, is_lot_below, is_number_below, is_tuple_of
from neverregret.court import is_forest
from neverregret.errors import Refused
from neverregret.tables import Table, accepted

WAYS = ("kinds", "types", "accepted")


def is_way_to_strike(value):
    """Return whether any value is one of the three ways."""
    return isinstance(value, str) and value in WAYS


def check_way(way):
    """Raise `Refused("way")` unless any value is a way."""
    if not is_way_to_strike(way):
        raise Refused("way")


def items_for(table, way):
    """Return the lot of all that can be struck in a way."""
    check_way(way)
    if way == "kinds":
        return tuple(range(len(table.kinds)))
    if way == "types":
        return tuple(range(len(table.types)))
    return tuple([(request, kind) for request, (_, lot) in enumerate(table.types) for kind in lot])


def struck_table(table, way, items):
    """Return the table without a lot of items."""
    check_way(way)
    types = []
    for request, (name, lot) in enumerate(table.types):
        types.append((name, tuple([kind for kind in lot if not is_struck(way, items, request, kind)])))
    return Table(table.kinds, tuple(types))


def is_struck(way, items, request, kind):
    """Return whether a type no more accepts a kind without a lot of items."""
    if way == "kinds":
        return kind in items
    if way == "types":
        return request in items
    return (request, kind) in items


def are_items(table, way, value):
    """Return whether any value is a lot of items of a way."""
    if way == "kinds":
        return is_lot_below(value, len(table.kinds))
    if way == "types":
        return is_lot_below(value, len(table.types))
    return isinstance(value, tuple) and all([is_acceptance(table, item) for item in value]) and is_ascending(value)


def is_acceptance(table, value):
    """Return whether any value is a pair of a type and a kind that it accepts."""
    if not is_tuple_of(value, 2):
        return False
    if not is_number_below(value[0], len(table.types)) or not is_number_below(value[1], len(table.kinds)):
        return False
    return value[1] in accepted(table, value[0])


def is_repair(table, way, value):
    """Return whether any value is a lot of items without which no two kinds cross."""
    check_way(way)
    return are_items(table, way, value) and is_forest(struck_table(table, way, value))


def strike_cost(table, way, costs, items):
    """Return the sum of the costs of a lot of items."""
    return sum([cost for item, cost in zip(items_for(table, way), costs) if item in items])
