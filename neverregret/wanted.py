"""Which kinds and types more or fewer are served by, and which kinds greatest servings give to which types."""

from neverregret.basics import changed_at
from neverregret.covers import dealt_serving, greatest_cover, least_cover
from neverregret.flows import most_taken
from neverregret.stocks import row_counts
from neverregret.tables import accepted, kinds_of_types


def needed_kinds(table, stock, row):
    """Return the lot of the kinds in stock without one unit of which fewer are served."""
    return tuple([kind for kind in kinds_of_types(table, greatest_cover(table, stock, row)) if stock[kind] > 0])


def wanted_kinds(table, stock, row):
    """Return the lot of the kinds with one unit more of which more are served."""
    return kinds_of_types(table, least_cover(table, stock, row))


def needed_types(table, stock, row):
    """Return the lot of the types in the row without one request of which fewer are served."""
    cover = least_cover(table, stock, row)
    return tuple([request for request in sorted(set(row)) if request not in cover])


def welcome_types(table, stock, row):
    """Return the lot of the types with one request more of which more are served."""
    cover = greatest_cover(table, stock, row)
    return tuple([request for request in range(len(table.types)) if request not in cover])


def most_of_counts(table, stock, counts):
    """Return how many requests are served at the most, of so many of each type."""
    taken, _ = most_taken(table, stock, counts, tuple(range(len(counts))))
    return sum([sum(units) for units in taken])


def possible_pairs(table, stock, row):
    """Return the lot of all pairs of a type and a kind that some greatest serving gives to a place of the type."""
    counts = row_counts(table, row)
    most = most_of_counts(table, stock, counts)
    pairs = []
    for request, count in enumerate(counts):
        for kind in accepted(table, request):
            if count > 0 and stock[kind] > 0:
                others = most_of_counts(table, changed_at(stock, kind, -1), changed_at(counts, request, -1))
                if others == most - 1:
                    pairs.append((request, kind))
    return tuple(pairs)


def serving_with_pair(table, stock, row, place, kind):
    """Return some greatest serving that gives a kind to a place, or `None`."""
    if kind not in accepted(table, row[place]) or stock[kind] == 0:
        return None
    others = dealt_serving(table, changed_at(stock, kind, -1), row[:place] + row[place + 1:])
    serving = others[:place] + (kind,) + others[place:]
    most = most_of_counts(table, stock, row_counts(table, row))
    return serving if len(row) - serving.count(None) == most else None
