"""What a crossing shows: a stock and rows with which every rule has a regret.

A crossing has kinds `(k, l)` and types `(t, u, v)`: `t` accepts both kinds, `u` only `k`, `v` only `l`.
"""

from neverregret.tables import without_kinds, without_types


def crossing_day(table, crossing):
    """Return a stock with one unit of both kinds, and two rows: each rule regrets in one of them."""
    one, two, three = crossing.types
    stock = tuple([1 if kind in crossing.kinds else 0 for kind in range(len(table.kinds))])
    return stock, ((one, two), (one, three))


def regretted_row(crossing, kind):
    """Return the row that regrets if the first type gets a kind or `None`."""
    one, two, three = crossing.types
    if kind is None:
        return (one,)
    return (one, two) if kind == crossing.kinds[0] else (one, three)


def turned_rows(crossing):
    """Return the rows of the day with their requests exchanged."""
    one, two, three = crossing.types
    return (two, one), (three, one)


def crossing_bounds(table, crossing):
    """Return bounds of 1 for the three types, of 0 for all others."""
    return tuple([1 if request in crossing.types else 0 for request in range(len(table.types))])


def crossing_attack(crossing):
    """Return the attack for the stock of the day and the bounds of the crossing."""
    one, two, three = crossing.types
    attacks = ((two, ()), (three, ()))
    # attacks stand by ascending kinds, and a right crossing may have the greater kind first
    if crossing.kinds[0] > crossing.kinds[1]:
        attacks = ((three, ()), (two, ()))
    return one, attacks


def crossing_part(table, crossing):
    """Return the table of the two kinds and three types alone."""
    types = [request for request in range(len(table.types)) if request not in crossing.types]
    kinds = [kind for kind in range(len(table.kinds)) if kind not in crossing.kinds]
    return without_kinds(without_types(table, types), kinds)
