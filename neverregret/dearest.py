"""Greatest servings with the greatest sum of worths, and papers that show that no serving has a greater sum."""

from neverregret.basics import is_lot_below, is_tuple_of
from neverregret.covers import cover_worth, least_cover
from neverregret.plain import is_serving
from neverregret.servings import greatest_serving


def dearest_serving(table, stock, row, worths):
    """Return some greatest serving with the greatest sum of worths of places served."""
    # Who serves the dearest places first, each that can be served with those before, loses nothing by it: which
    # places can be served together is a matroid.
    places = sorted(range(len(row)), key=lambda place: -worths[place])
    dealt = greatest_serving(table, stock, tuple([row[place] for place in places]))
    kinds = {place: kind for place, kind in zip(places, dealt)}
    return tuple([kinds[place] for place in range(len(row))])


def unlike_worths(worths):
    """Return the list of the unlike worths above 0, the greatest first."""
    return list(reversed(sorted({worth for worth in worths if worth > 0})))


def row_worth(row, worths, least):
    """Return the row of the requests worth at least so much."""
    return tuple([request for request, worth in zip(row, worths) if worth >= least])


class DearestPaper:
    """A serving, and a lot of types for each unlike worth that shows that no serving serves more worth so much."""

    def __init__(self, serving, covers):
        self.serving = serving
        self.covers = covers

    def __eq__(self, other):
        return isinstance(other, DearestPaper) and self.serving == other.serving and self.covers == other.covers


def dearest_paper(table, stock, row, worths):
    """Return some right paper."""
    covers = [least_cover(table, stock, row_worth(row, worths, least)) for least in unlike_worths(worths)]
    return DearestPaper(dearest_serving(table, stock, row, worths), tuple(covers))


def is_dearest_paper(table, stock, row, worths, value):
    """Return whether any value is a right paper."""
    if not isinstance(value, DearestPaper) or not is_serving(table, stock, row, value.serving):
        return False
    leasts = unlike_worths(worths)
    if not is_tuple_of(value.covers, len(leasts)):
        return False
    for least, cover in zip(leasts, value.covers):
        if not is_lot_below(cover, len(table.types)):
            return False
        many = len([kind for kind, worth in zip(value.serving, worths) if kind is not None and worth >= least])
        if cover_worth(table, stock, row_worth(row, worths, least), cover) != many:
            return False
    return True
