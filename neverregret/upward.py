"""Requests that go upward along a forest: what overflows, what is left over, and what is dry."""

from neverregret.forests import way_up


def from_below(forest):
    """Return the places such that each one stands ahead of all above it."""
    return sorted(range(len(forest.places)), key=lambda place: -len(way_up(forest, place)))


def balances(forest, stock, counts):
    """Return for each place its units, less the requests with a home there and the overflows from below."""
    left = []
    for kinds in forest.places:
        left.append(sum([stock[kind] for kind in kinds]))
    for home, count in zip(forest.homes, counts):
        if home != -1:
            left[home] -= count
    for place in from_below(forest):
        higher = forest.above[place]
        if left[place] < 0 and higher != -1:
            left[higher] += left[place]
    return left


def overflows(forest, stock, counts):
    """Return for each place how many requests overflow from it."""
    return tuple([max(0, -left) for left in balances(forest, stock, counts)])


def spare_units(forest, stock, counts):
    """Return for each place how many of its units are left over."""
    return tuple([max(0, left) for left in balances(forest, stock, counts)])


def refused_count(forest, stock, counts):
    """Return how many requests are refused at the least."""
    over = overflows(forest, stock, counts)
    tops = [number for number, higher in zip(over, forest.above) if higher == -1]
    homeless = [count for count, home in zip(counts, forest.homes) if home == -1]
    return sum(tops) + sum(homeless)


def dry_places(forest, stock, counts):
    """Return the lot of the places that overflow as do all above them."""
    over = overflows(forest, stock, counts)
    dry = []
    for place in range(len(over)):
        if all([over[higher] > 0 for higher in way_up(forest, place)]):
            dry.append(place)
    return tuple(dry)


def dry_types(forest, stock, counts):
    """Return the lot of the types with a home in a dry place, or without a home."""
    dry = dry_places(forest, stock, counts)
    return tuple([request for request, home in enumerate(forest.homes) if home == -1 or home in dry])


def room_for(forest, stock, counts, request):
    """Return how many units are left over on the way up from the home of a type."""
    spare = spare_units(forest, stock, counts)
    return sum([spare[place] for place in way_up(forest, forest.homes[request])])


def worst_refused(forest, stock, bounds):
    """Return the greatest number of least refusals of all rows within bounds, `None` without a bound."""
    if None in bounds:
        return None
    return refused_count(forest, stock, bounds)


def is_enough(forest, stock, bounds):
    """Return whether all rows within bounds are servable."""
    return worst_refused(forest, stock, bounds) == 0
