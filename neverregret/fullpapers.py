"""Papers that show which lot of types is the greatest full one within another lot."""

from neverregret.basics import is_lot_below
from neverregret.gaps import gap_of_taking, is_gap, types_outside
from neverregret.takings import greatest_taking, is_taking, units_by_kind
from neverregret.tables import kinds_of_types


class FullPaper:
    """A lot of types, a gap of them or `()`, and a taking by those that accept nothing of the gap."""

    def __init__(self, types, gap, taking):
        self.types = types
        self.gap = gap
        self.taking = taking


def paper_rest(table, paper):
    """Return the lot of those of the types of a paper that accept nothing of its gap."""
    return types_outside(table, paper.types, paper.gap)


def full_paper(table, stock, bounds, types):
    """Return some right paper with these types."""
    return paper_of_taking(table, stock, types, greatest_taking(table, stock, bounds, types))


def paper_of_taking(table, stock, types, taking):
    """Return the right paper with these types that some greatest taking by them tells."""
    gap = gap_of_taking(table, stock, types, taking)
    rest = types_outside(table, types, gap)
    nothing = (0,) * len(stock)
    return FullPaper(types, gap, tuple([units if request in rest else nothing
                                        for request, units in enumerate(taking)]))


def is_full_paper(table, stock, bounds, value):
    """Return whether any value is a right paper."""
    if not isinstance(value, FullPaper) or not is_lot_below(value.types, len(table.types)):
        return False
    if not is_lot_below(value.gap, len(stock)):
        return False
    if value.gap and not is_gap(table, stock, bounds, value.types, value.gap):
        return False
    return is_full_taking(table, stock, bounds, paper_rest(table, value), value.taking)


def is_full_taking(table, stock, bounds, types, value):
    """Return whether any value is a taking by these types alone that takes all units that they accept."""
    if not is_taking(table, stock, bounds, value):
        return False
    if any([sum(units) > 0 and request not in types for request, units in enumerate(value)]):
        return False
    taken = units_by_kind(table, value)
    return all([taken[kind] == stock[kind] for kind in kinds_of_types(table, types)])
