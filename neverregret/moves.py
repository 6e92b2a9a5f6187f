"""Remakes: servings that come about if requests served before are moved to make room for others."""

from neverregret.plain import is_serving, left_stock
from neverregret.servings import turned_serving
from neverregret.tables import accepted


def moved_places(one, other):
    """Return the lot of the places that two servings serve by unlike kinds, as far as both go."""
    moved = []
    for place, (before, behind) in enumerate(zip(one, other)):
        if before is not None and behind is not None and before != behind:
            moved.append(place)
    return tuple(moved)


def remake_cost(serving, costs, remake):
    """Return the sum of the costs of the moved places."""
    return sum([costs[place] for place in moved_places(serving, remake)])


def is_remake(table, stock, row, serving, places, costs, value):
    """Return whether any value is a remake."""
    if not is_serving(table, stock, row, value):
        return False
    for place, kind in enumerate(serving):
        if (value[place] is not None) != (kind is not None or place in places):
            return False
        if stays(serving, costs, place) and value[place] != kind:
            return False
    return True


def stays(serving, costs, place):
    """Return whether a place is served and keeps its kind."""
    return serving[place] is not None and costs[place] is None


def cheapest_remake(table, stock, row, serving, places, costs):
    """Return some remake of least cost, `None` if there is none."""
    remakes = remakes_in_turn(table, stock, row, serving, places, costs)
    return remakes[-1] if len(remakes) > len(places) else None


def remake_costs(table, stock, row, serving, places, costs):
    """Return the least costs for the first 0, 1, 2 .. of the places, as far as there is a remake."""
    remakes = remakes_in_turn(table, stock, row, serving, places, costs)
    return tuple([remake_cost(serving, costs, remake) for remake in remakes])


def remakes_in_turn(table, stock, row, serving, places, costs):
    """Return remakes of least cost for the first 0, 1, 2 .. of the places, as far as there are any.

    If a remake is of least cost, the cheapest way from one more place makes it one of least cost with that place.
    """
    remakes = [serving]
    for place in places:
        way = cheapest_way(table, stock, row, serving, remakes[-1], costs, place)
        if way is None:
            break
        remakes.append(turned_serving(remakes[-1], way))
    return remakes


def cheapest_way(table, stock, row, serving, remake, costs, place):
    """Return some way from a place that costs least, `None` if there is none."""
    steps = cheapest_steps(table, row, serving, remake, costs)
    return way_by_steps(steps, left_stock(stock, remake), place, accepted(table, row[place]))


def way_by_steps(steps, left, place, kinds):
    """Return some way that costs least from a place that gets one of some kinds, `None` if there is none."""
    ways = {kind: (0, ((place, kind),)) for kind in kinds}
    changed = True
    # some steps cost less than nothing, as they bring a place back to its old kind, but no circle of steps does
    while changed:
        changed = False
        for (kind, further), (cost, mover) in steps.items():
            if kind in ways and (further not in ways or ways[kind][0] + cost < ways[further][0]):
                ways[further] = (ways[kind][0] + cost, ways[kind][1] + ((mover, further),))
                changed = True
    ended = [ways[kind] for kind in ways if left[kind] > 0]
    return min(ended, key=lambda way: way[0])[1] if ended else None


def cheapest_steps(table, row, serving, remake, costs):
    """Return a dict with the least cost of a place that goes from one kind to another one, and this place."""
    steps = {}
    for place, kind in enumerate(remake):
        if kind is not None and not stays(serving, costs, place):
            for further in accepted(table, row[place]):
                cost = cost_of_kind(serving, costs, place, further) - cost_of_kind(serving, costs, place, kind)
                if further != kind and ((kind, further) not in steps or cost < steps[kind, further][0]):
                    steps[kind, further] = (cost, place)
    return steps


def cost_of_kind(serving, costs, place, kind):
    """Return what it costs that a place has a kind."""
    return 0 if serving[place] is None or serving[place] == kind else costs[place]
