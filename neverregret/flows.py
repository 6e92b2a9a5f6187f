"""Units that go to types, and may go another way: what takings and moves at will have in common.

Here `taken` is a list with, for each type, a list of how many units of each kind it has; `left` a list of how
many units of each kind are left. Both change. A way is a list of pairs `(request, kind)`: the type of each
pair gets a unit of its kind, which the type of the next pair gives up; of the last kind a unit is left.
"""

from neverregret.stocks import units_in
from neverregret.tables import accepted


def nothing_taken(table):
    """Return the list of lists in which no type has a unit."""
    return [[0] * len(table.kinds) for _ in table.types]


def way_to_unit(table, taken, left, request):
    """Return some way with the fewest pairs by which a type gets a unit more, or `None`."""
    ways = [[(request, kind)] for kind in accepted(table, request)]
    reached = {kind: True for kind in accepted(table, request)}
    at = 0
    while at < len(ways):
        way = ways[at]
        at += 1
        kind = way[-1][1]
        if left[kind] > 0:
            return way
        for other, units in enumerate(taken):
            if units[kind] > 0:
                for further in accepted(table, other):
                    if further not in reached:
                        reached[further] = True
                        ways.append(way + [(other, further)])
    return None


def way_room(taken, left, way):
    """Return how many units can go a way at once."""
    rooms = [left[way[-1][1]]]
    for (_, kind), (giver, _) in zip(way, way[1:]):
        rooms.append(taken[giver][kind])
    return min(rooms)


def go_way(taken, left, way, many):
    """Let so many units go a way."""
    left[way[-1][1]] -= many
    given = None
    for request, kind in way:
        if given is not None:
            taken[request][given] -= many
        taken[request][kind] += many
        given = kind


def take_most(table, taken, left, request, many):
    """Let a type get up to so many units more, as many as can be, and return how many it gets."""
    got = 0
    while got < many:
        way = way_to_unit(table, taken, left, request)
        if way is None:
            break
        step = min(many - got, way_room(taken, left, way))
        go_way(taken, left, way, step)
        got += step
    return got


def most_taken(table, stock, bounds, types):
    """Return what the types have, and what is left, if types of a lot alone take as many units as can be."""
    taken = nothing_taken(table)
    left = list(stock)
    # a type that finds no way finds none later either, so that one turn for each is enough
    for request in types:
        most = units_in(stock, accepted(table, request))
        if bounds[request] is not None:
            most = min(most, bounds[request])
        take_most(table, taken, left, request, most)
    return taken, left


def missable_kinds(table, taken, left):
    """Return a dict with the kinds of which a unit can be missed: one is left, or its type can go another way."""
    missable = {kind: True for kind, units in enumerate(left) if units > 0}
    many = -1
    while many < len(missable):
        many = len(missable)
        for request, units in enumerate(taken):
            if any([kind in missable for kind in accepted(table, request)]):
                missable.update({kind: True for kind, number in enumerate(units) if number > 0})
    return missable
