"""Papers that show that a kind is safe against another one, or that it is not."""

from neverregret.basics import is_lot_below, is_number_below
from neverregret.fullpapers import full_paper, is_full_paper, is_full_taking, paper_rest
from neverregret.safe import check_units
from neverregret.tables import kinds_of_types, types_without


class SafePaper:
    """Two kinds, and the paper of a greatest full lot that accepts neither of them."""

    def __init__(self, one, other, paper):
        self.one = one
        self.other = other
        self.paper = paper


class WorsePaper:
    """Two kinds, types that accept the one and not the other, and a taking of all units that these accept."""

    def __init__(self, one, other, types, taking):
        self.one = one
        self.other = other
        self.types = types
        self.taking = taking


def comparison_paper(table, stock, bounds, one, other):
    """Return some right paper of either class on two kinds."""
    check_units(stock, (one, other))
    paper = full_paper(table, stock, bounds, types_without(table, other))
    rest = paper_rest(table, paper)
    if one in kinds_of_types(table, rest):
        return WorsePaper(one, other, rest, paper.taking)
    return SafePaper(one, other, paper)


def is_kind_with_unit(stock, value):
    """Return whether any value is a kind with units."""
    return is_number_below(value, len(stock)) and stock[value] > 0


def is_safe_paper(table, stock, bounds, value):
    """Return whether any value is a right `SafePaper`."""
    if not isinstance(value, SafePaper):
        return False
    if not is_kind_with_unit(stock, value.one) or not is_kind_with_unit(stock, value.other):
        return False
    return does_rest_lack(table, stock, bounds, value.paper, types_without(table, value.other), value.one)


def does_rest_lack(table, stock, bounds, value, types, kind):
    """Return whether any value is a right `FullPaper` with these types whose rest does not accept a kind."""
    if not is_full_paper(table, stock, bounds, value) or value.types != types:
        return False
    return kind not in kinds_of_types(table, paper_rest(table, value))


def is_worse_paper(table, stock, bounds, value):
    """Return whether any value is a right `WorsePaper`."""
    if not isinstance(value, WorsePaper):
        return False
    if not is_kind_with_unit(stock, value.one) or not is_kind_with_unit(stock, value.other):
        return False
    if not is_lot_below(value.types, len(table.types)):
        return False
    kinds = kinds_of_types(table, value.types)
    if value.one not in kinds or value.other in kinds:
        return False
    return is_full_taking(table, stock, bounds, value.types, value.taking)
