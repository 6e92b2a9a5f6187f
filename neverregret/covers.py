"""Covers: lots of types that show that no serving serves more; and papers that show it."""

from neverregret.basics import all_lots, is_lot_below
from neverregret.flows import missable_kinds, most_taken
from neverregret.plain import is_serving
from neverregret.servings import greatest_serving, served_places
from neverregret.stocks import row_counts, units_in
from neverregret.tables import accepted, kinds_of_types


def cover_worth(table, stock, row, types):
    """Return the number of requests of other types, and of units that some type in a lot accepts, together."""
    return worth_of_counts(table, stock, row_counts(table, row), types)


def worth_of_counts(table, stock, counts, types):
    """Return the worth of a lot for a row with so many requests of each type."""
    others = sum([count for request, count in enumerate(counts) if request not in types])
    return others + units_in(stock, kinds_of_types(table, types))


def units_of_types(table, stock, row):
    """Return what the types have, and what is left, if as many requests of a row are served as can be."""
    counts = row_counts(table, row)
    return most_taken(table, stock, counts, tuple(range(len(counts))))


def dealt_serving(table, stock, row):
    """Return some greatest serving in which the first requests of each type get what the type can have."""
    taken, _ = units_of_types(table, stock, row)
    waiting = []
    for units in taken:
        waiting.append([kind for kind, number in enumerate(units) for _ in range(number)])
    serving = []
    for request in row:
        serving.append(waiting[request].pop() if waiting[request] else None)
    return tuple(serving)


def least_cover_with(table, stock, row, types):
    """Return the cover with all types of a lot that is part of each such cover, `None` if there is none."""
    taken, left = units_of_types(table, stock, row)
    counts = row_counts(table, row)
    refused = [request for request, units in enumerate(taken) if sum(units) < counts[request]]
    cover = ()
    wider = tuple(sorted(set(list(types) + refused)))
    while wider != cover:
        cover = wider
        kinds = kinds_of_types(table, cover)
        if any([left[kind] > 0 for kind in kinds]):
            return None
        more = [request for request, units in enumerate(taken) if any([units[kind] > 0 for kind in kinds])]
        wider = tuple(sorted(set(list(cover) + more)))
    return cover


def least_cover(table, stock, row):
    """Return the cover that is part of each cover."""
    return least_cover_with(table, stock, row, ())


def greatest_cover(table, stock, row):
    """Return the cover that has all types of each cover."""
    taken, left = units_of_types(table, stock, row)
    missable = missable_kinds(table, taken, left)
    # from a type outside, units of other types can be moved until one that is left is used, which no cover accepts
    return tuple([request for request in range(len(taken))
                  if not any([kind in missable for kind in accepted(table, request)])])


def least_covers(table, stock, row):
    """Return the lot of all covers."""
    counts = row_counts(table, row)
    least = worth_of_counts(table, stock, counts, least_cover(table, stock, row))
    return tuple([lot for lot in all_lots(len(counts)) if worth_of_counts(table, stock, counts, lot) == least])


class ServingPaper:
    """A serving, and a cover that shows that no serving serves more."""

    def __init__(self, serving, cover):
        self.serving = serving
        self.cover = cover

    def __eq__(self, other):
        return isinstance(other, ServingPaper) and self.serving == other.serving and self.cover == other.cover


def serving_paper(table, stock, row):
    """Return some right paper."""
    return ServingPaper(greatest_serving(table, stock, row), least_cover(table, stock, row))


def serving_paper_fault(table, stock, row, value):
    """Return what is first wrong with any value as a paper, `None` if it is right."""
    if not isinstance(value, ServingPaper):
        return "kind"
    if not is_serving(table, stock, row, value.serving):
        return "serving"
    if not is_lot_below(value.cover, len(table.types)):
        return "cover"
    if cover_worth(table, stock, row, value.cover) != len(served_places(value.serving)):
        return "worth"
    return None


def is_serving_paper(table, stock, row, value):
    """Return whether any value is a right paper."""
    return serving_paper_fault(table, stock, row, value) is None
