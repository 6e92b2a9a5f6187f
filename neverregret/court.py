"""The court: kinds that cross, and the verdict on a table, a crossing or its forest."""

from neverregret.basics import are_numbers_below, is_lot_below
from neverregret.errors import InvalidPaper
from neverregret.forests import Forest, are_homes, is_above, places_of, upward_kinds
from neverregret.tables import accepted, takers


class Crossing:
    """Two kinds `(k, l)` and three types: the first accepts both, the second only `k`, the third only `l`."""

    def __init__(self, kinds, types):
        self.kinds = kinds
        self.types = types

    def __eq__(self, other):
        return isinstance(other, Crossing) and self.kinds == other.kinds and self.types == other.types


def shared_takers(table, one, other):
    """Return three lists of types: those that accept both kinds, the first alone, the second alone."""
    ones = takers(table, one)
    others = takers(table, other)
    both = [request for request in ones if request in others]
    first = [request for request in ones if request not in others]
    second = [request for request in others if request not in ones]
    return both, first, second


def do_cross(table, one, other):
    """Return whether two kinds cross."""
    both, first, second = shared_takers(table, one, other)
    return len(both) > 0 and len(first) > 0 and len(second) > 0


def crossing_pairs(table):
    """Return the lot of all pairs of crossing kinds with the lesser kind first."""
    pairs = []
    for one in range(len(table.kinds)):
        for other in range(one + 1, len(table.kinds)):
            if do_cross(table, one, other):
                pairs.append((one, other))
    return tuple(pairs)


def crossings_of(table):
    """Return all crossings with the lesser kind first, by their kinds, then by their types."""
    found = []
    for one, other in crossing_pairs(table):
        both, first, second = shared_takers(table, one, other)
        for t in both:
            for u in first:
                for v in second:
                    found.append(Crossing((one, other), (t, u, v)))
    return tuple(found)


def is_forest(table):
    """Return whether no two kinds of a table cross."""
    return not crossing_pairs(table)


def court(table):
    """Return the first crossing of a table, or its forest if there is none."""
    pairs = crossing_pairs(table)
    if not pairs:
        return forest_of(table)
    both, first, second = shared_takers(table, pairs[0][0], pairs[0][1])
    return Crossing(pairs[0], (both[0], first[0], second[0]))


def forest_of(table):
    """Return the forest of a table without crossing kinds."""
    places = places_of(table)
    lots = [takers(table, place[0]) for place in places]
    homes = []
    for request in range(len(table.types)):
        homes.append(least_place(lots, [request in lot for lot in lots]))
    above = []
    for lot in lots:
        above.append(least_place(lots, [is_part_of(lot, other) and lot != other for other in lots]))
    return Forest(places, tuple(above), tuple(homes))


def least_place(lots, chosen):
    """Return the place with the fewest takers of the chosen ones, -1 if none is chosen."""
    places = [place for place, is_chosen in enumerate(chosen) if is_chosen]
    return min(places, key=lambda place: len(lots[place]), default=-1)


def is_part_of(lot, other):
    """Return whether one lot has nothing that the other one lacks."""
    return all([item in other for item in lot])


def verdict_fault(table, value):
    """Return what is first wrong with any value as a verdict on a table, or `None`."""
    if isinstance(value, Crossing):
        return crossing_fault(table, value)
    if isinstance(value, Forest):
        return forest_fault(table, value)
    return "kind"


def crossing_fault(table, crossing):
    """Return what is first wrong with a crossing, of any attributes, or `None`."""
    if not are_numbers_below(crossing.kinds, len(table.kinds)) or len(crossing.kinds) != 2:
        return "kinds"
    if not are_numbers_below(crossing.types, len(table.types)) or len(crossing.types) != 3:
        return "types"
    both, first, second = shared_takers(table, crossing.kinds[0], crossing.kinds[1])
    t, u, v = crossing.types
    return None if t in both and u in first and v in second else "types"


def forest_fault(table, forest):
    """Return what is first wrong with a forest, of any attributes, or `None`."""
    if not are_lots_of_kinds(table, forest.places) or forest.places != places_of(table):
        return "places"
    if not is_above(forest.above, len(forest.places)):
        return "above"
    if not are_homes(forest.homes, len(table.types), len(forest.places)):
        return "homes"
    for request in range(len(table.types)):
        if tuple(sorted(upward_kinds(forest, request))) != accepted(table, request):
            return "homes"
    return None


def are_lots_of_kinds(table, value):
    """Return whether any value is a tuple of lots of kinds: True would equal a kind that it is not."""
    return isinstance(value, tuple) and all([is_lot_below(item, len(table.kinds)) for item in value])


def is_verdict(table, value):
    """Return whether any value is a right verdict on a table."""
    return verdict_fault(table, value) is None


def check_verdict(table, value):
    """Raise `InvalidPaper` with what is first wrong with any value as a verdict on a table."""
    fault = verdict_fault(table, value)
    if fault is not None:
        raise InvalidPaper(fault)
