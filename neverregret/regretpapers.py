"""Papers that show that a row tells two kinds apart, and that no row with fewer requests does."""

from neverregret.basics import changed_at, is_lot_below, is_tuple_of
from neverregret.covers import cover_worth, dealt_serving, least_cover
from neverregret.errors import Refused
from neverregret.fewestrows import least_regret_row, lots_apart, types_within
from neverregret.fullpapers import full_paper
from neverregret.plain import is_serving
from neverregret.regretrows import is_row_within, regret_row, tells_apart
from neverregret.safepapers import does_rest_lack, is_kind_with_unit
from neverregret.servings import served_places
from neverregret.stocks import units_in


class RegretPaper:
    """Two kinds, a row, a serving of it without a unit of the other, and a cover without a unit of the one."""

    def __init__(self, one, other, row, serving, cover):
        self.one = one
        self.other = other
        self.row = row
        self.serving = serving
        self.cover = cover


class FewestPaper:
    """A `RegretPaper`, and papers that show that no row with fewer requests tells its kinds apart."""

    def __init__(self, paper, papers):
        self.paper = paper
        self.papers = papers


def row_paper(table, stock, one, other, row):
    """Return some paper of a row that is right if the row is within the bounds."""
    if not tells_apart(table, stock, one, other, row):
        raise Refused("row")
    serving = dealt_serving(table, changed_at(stock, other, -1), row)
    return RegretPaper(one, other, row, serving, least_cover(table, changed_at(stock, one, -1), row))


def regret_paper(table, stock, bounds, one, other):
    """Return some right `RegretPaper`."""
    row = regret_row(table, stock, bounds, one, other)
    if row is None:
        raise Refused("safe")
    return row_paper(table, stock, one, other, row)


def is_regret_paper(table, stock, bounds, value):
    """Return whether any value is a right `RegretPaper`."""
    if not isinstance(value, RegretPaper):
        return False
    if not is_kind_with_unit(stock, value.one) or not is_kind_with_unit(stock, value.other):
        return False
    if not is_row_within(table, bounds, value.row) or not is_lot_below(value.cover, len(table.types)):
        return False
    if not is_serving(table, changed_at(stock, value.other, -1), value.row, value.serving):
        return False
    worth = cover_worth(table, changed_at(stock, value.one, -1), value.row, value.cover)
    return worth < len(served_places(value.serving))


def lesser_lots(stock, one, other, many):
    """Return the ascending list of the lesser lots of two kinds and a row of so many requests."""
    lots = [lot for lot in lots_apart(stock, one, other) if units_in(stock, lot) < many]
    return [lot for lot in lots if not can_grow(stock, lot, other, many)]


def can_grow(stock, lot, other, many):
    """Return whether a further kind, but for one, leaves a lot with fewer units than a number."""
    room = many - units_in(stock, lot)
    return any([units < room and kind not in lot and kind != other for kind, units in enumerate(stock)])


def fewest_row_paper(table, stock, bounds, one, other):
    """Return some right `FewestPaper`."""
    row = least_regret_row(table, stock, bounds, one, other)
    if row is None:
        raise Refused("safe")
    papers = []
    for lot in lesser_lots(stock, one, other, len(row)):
        papers.append(full_paper(table, stock, bounds, types_within(table, lot)))
    return FewestPaper(row_paper(table, stock, one, other, row), tuple(papers))


def is_fewest_row_paper(table, stock, bounds, value):
    """Return whether any value is a right `FewestPaper`."""
    if not isinstance(value, FewestPaper) or not is_regret_paper(table, stock, bounds, value.paper):
        return False
    one = value.paper.one
    lots = lesser_lots(stock, one, value.paper.other, len(value.paper.row))
    if not is_tuple_of(value.papers, len(lots)):
        return False
    return all([does_rest_lack(table, stock, bounds, paper, types_within(table, lot), one)
                for lot, paper in zip(lots, value.papers)])
