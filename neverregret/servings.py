"""Ways by which one place more is served, and greatest servings."""

from neverregret.basics import is_number_below, is_tuple_of
from neverregret.errors import Refused
from neverregret.plain import is_refused_place, is_serving, left_stock
from neverregret.tables import accepted


def served_places(serving):
    """Return the lot of the places that a serving serves."""
    return tuple([place for place, kind in enumerate(serving) if kind is not None])


def turned_serving(serving, way):
    """Return the serving in which each place of a way has its kind."""
    turned = list(serving)
    for place, kind in way:
        turned[place] = kind
    return tuple(turned)


def way_from(table, stock, row, serving, place):
    """Return some way from a refused place with the fewest pairs, or `None`."""
    if not is_refused_place(serving, place):
        raise Refused("place")
    left = left_stock(stock, serving)
    ways = {kind: ((place, kind),) for kind in accepted(table, row[place])}
    reached = list(accepted(table, row[place]))
    at = 0
    while at < len(reached):
        kind = reached[at]
        at += 1
        if left[kind] > 0:
            return ways[kind]
        for giver, given in enumerate(serving):
            if given == kind:
                for further in accepted(table, row[giver]):
                    if further not in ways:
                        ways[further] = ways[kind] + ((giver, further),)
                        reached.append(further)
    return None


def is_way(table, stock, row, serving, value):
    """Return whether any value is a way from some refused place."""
    if not isinstance(value, tuple) or not value:
        return False
    if not all([can_be_given(table, row, pair) for pair in value]):
        return False
    places = [place for place, _ in value]
    kinds = [kind for _, kind in value]
    if len(set(places)) < len(places):
        return False
    if [serving[place] for place in places] != [None] + kinds[:-1]:
        return False
    return left_stock(stock, serving)[kinds[-1]] > 0


def can_be_given(table, row, value):
    """Return whether any value is a pair of a place of a row and a kind that its type accepts."""
    if not is_tuple_of(value, 2):
        return False
    if not is_number_below(value[0], len(row)) or not is_number_below(value[1], len(table.kinds)):
        return False
    return value[1] in accepted(table, row[value[0]])


def grown_serving(table, stock, row, serving):
    """Return some serving with all places of a serving, and with all others, in turn, that can be served too."""
    grown = serving
    for place, kind in enumerate(serving):
        if kind is None:
            way = way_from(table, stock, row, grown, place)
            if way is not None:
                grown = turned_serving(grown, way)
    return grown


def greatest_serving(table, stock, row):
    """Return some greatest serving without regrets."""
    return grown_serving(table, stock, row, (None,) * len(row))


def most_by_ways(table, stock, row):
    """Return the greatest number of requests of a row that one serving serves."""
    return len(served_places(greatest_serving(table, stock, row)))


def is_greatest_serving(table, stock, row, value):
    """Return whether any value is a greatest serving."""
    if not is_serving(table, stock, row, value):
        return False
    return len(served_places(value)) == most_by_ways(table, stock, row)
