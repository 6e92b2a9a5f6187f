"""The shortest rows that show that handing out one kind was worse than handing out another one.

Such a row is one of types that accept nothing but some lot of kinds, with the one kind and without the other,
and it uses up all units of this lot.
"""

from neverregret.basics import all_lots
from neverregret.safe import check_units
from neverregret.stocks import units_in
from neverregret.takings import greatest_taking, taken_units, taking_row


def types_within(table, kinds):
    """Return the lot of the types that accept nothing but some kinds of a lot."""
    found = []
    for request, (_, lot) in enumerate(table.types):
        if all([kind in kinds for kind in lot]):
            found.append(request)
    return tuple(found)


def lots_apart(stock, one, other):
    """Return the ascending list of all lots of kinds with one kind and without the other one."""
    return [lot for lot in all_lots(len(stock)) if one in lot and other not in lot]


def takings_apart(table, stock, bounds, one, other):
    """Return the list of takings that use up all units of a lot with one kind and without the other one."""
    found = []
    for lot in lots_apart(stock, one, other):
        taking = greatest_taking(table, stock, bounds, types_within(table, lot))
        if taken_units(taking) == units_in(stock, lot):
            found.append(taking)
    return found


def fewest_requests(table, stock, bounds, one, other):
    """Return the least number of requests of a row that tells two kinds apart, `None` if there is none."""
    check_units(stock, (one, other))
    takings = takings_apart(table, stock, bounds, one, other)
    return min([taken_units(taking) for taking in takings], default=None)


def least_regret_row(table, stock, bounds, one, other):
    """Return the least of the rows with the fewest requests that tell two kinds apart, `None` if there is none."""
    check_units(stock, (one, other))
    takings = takings_apart(table, stock, bounds, one, other)
    fewest = min([taken_units(taking) for taking in takings], default=None)
    # Takings let the first types have as many units as they can, then the next ones: so the row of each is the
    # least one for its lot.
    rows = [taking_row(taking)[0] for taking in takings if taken_units(taking) == fewest]
    return min(rows, default=None)
