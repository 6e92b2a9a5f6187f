"""Forests: tables without crossing kinds, told by places, one above the other."""

from neverregret.basics import is_ascending, is_lot_below, is_place_or_none, is_tuple_of
from neverregret.errors import Refused
from neverregret.tables import Table, all_takers


class Forest:
    """Places of kinds, the place right above each of them or -1, and the home of each type or -1."""

    def __init__(self, places, above, homes):
        self.places = places
        self.above = above
        self.homes = homes

    def __eq__(self, other):
        return (isinstance(other, Forest) and self.places == other.places
                and self.above == other.above and self.homes == other.homes)


def places_of(table):
    """Return the lots of all kinds with equal takers, but of those without takers, by their first kinds."""
    lots = all_takers(table)
    places = []
    for kind, lot in enumerate(lots):
        if lot and lot not in lots[:kind]:
            places.append(tuple([other for other, others in enumerate(lots) if others == lot]))
    return tuple(places)


def way_up(forest, place):
    """Return the places from one upward, itself first."""
    way = []
    while place != -1:
        way.append(place)
        place = forest.above[place]
    return tuple(way)


def place_of_kind(forest, kind):
    """Return the number of the place of a kind, or -1."""
    for place, kinds in enumerate(forest.places):
        if kind in kinds:
            return place
    return -1


def upward_kinds(forest, request):
    """Return the kinds of all places on the way up from the home of a type, place by place."""
    kinds = []
    for place in way_up(forest, forest.homes[request]):
        kinds.extend(forest.places[place])
    return tuple(kinds)


def types_below(forest, place):
    """Return the lot of the types with a home at a place or below it."""
    return tuple([request for request, home in enumerate(forest.homes) if place in way_up(forest, home)])


def places_below(forest, place):
    """Return the lot of this place and of all below it."""
    return tuple([other for other in range(len(forest.places)) if place in way_up(forest, other)])


def table_of_forest(kinds, types, forest):
    """Return the table in which each type accepts what is on the way up from its home."""
    if not are_places(forest.places, len(kinds)):
        raise Refused("places")
    if not is_above(forest.above, len(forest.places)):
        raise Refused("above")
    if not are_homes(forest.homes, len(types), len(forest.places)):
        raise Refused("homes")
    pairs = []
    for request, name in enumerate(types):
        pairs.append((name, tuple(sorted(upward_kinds(forest, request)))))
    table = Table(kinds, tuple(pairs))
    if places_of(table) != forest.places:
        raise Refused("places")
    return table


def are_places(value, many_kinds):
    """Return whether any value is a tuple of lots of kinds, by their first kinds, no kind in two of them."""
    if not isinstance(value, tuple):
        return False
    if not all([is_lot_below(item, many_kinds) and len(item) > 0 for item in value]):
        return False
    if not is_ascending([item[0] for item in value]):
        return False
    kinds = [kind for item in value for kind in item]
    return len(set(kinds)) == len(kinds)


def is_above(value, many_places):
    """Return whether any value has a place or -1 for each place, such that each way up ends."""
    if not are_homes(value, many_places, many_places):
        return False
    return all([does_way_end(value, place) for place in range(many_places)])


def does_way_end(above, place):
    """Return whether the way up from a place ends."""
    # a way that passes more places than there are comes back to one of them
    for _ in range(len(above)):
        if place == -1:
            return True
        place = above[place]
    return place == -1


def are_homes(value, length, many_places):
    """Return whether any value is a tuple of so many numbers of places or -1."""
    return is_tuple_of(value, length) and all([is_place_or_none(item, many_places) for item in value])
