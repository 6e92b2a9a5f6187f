"""Tables of types and kinds, and the checks of stocks, bounds and rows for them."""

from neverregret.basics import MOST_KINDS, MOST_REQUESTS, MOST_TYPES, MOST_UNITS
from neverregret.basics import first_false, is_lot_below, is_lot_of_names, is_name, is_number_below
from neverregret.basics import is_tuple_of, numbered_anew
from neverregret.errors import InvalidBounds, InvalidRow, InvalidStock, InvalidTable, Refused


class Table:
    """Kinds, a lot of names, and types, pairs of a name and the lot of the kinds that it accepts."""

    def __init__(self, kinds, types):
        if not is_lot_of_names(kinds) or not 1 <= len(kinds) <= MOST_KINDS:
            raise InvalidTable(-2)
        if not isinstance(types, tuple) or len(types) > MOST_TYPES:
            raise InvalidTable(-1)
        for at, item in enumerate(types):
            if not is_type_pair(item, len(kinds)) or (at > 0 and item[0] <= types[at - 1][0]):
                raise InvalidTable(at)
        self.kinds = kinds
        self.types = types

    def __eq__(self, other):
        return isinstance(other, Table) and self.kinds == other.kinds and self.types == other.types


def is_type_pair(value, many_kinds):
    """Return whether any value is a pair of a name and a lot of numbers of kinds."""
    return is_tuple_of(value, 2) and is_name(value[0]) and is_lot_below(value[1], many_kinds)


def table_by_names(kinds, lots):
    """Return the table of names of kinds, in any sequence, and a dict with the names that each type accepts."""
    sorted_kinds = tuple(sorted(kinds))
    types = []
    for name in sorted(lots):
        types.append((name, tuple(sorted([sorted_kinds.index(kind) for kind in lots[name]]))))
    return Table(sorted_kinds, tuple(types))


def kind_names(table):
    """Return the names of all kinds."""
    return table.kinds


def type_names(table):
    """Return the names of all types."""
    return tuple([name for name, _ in table.types])


def kind_number(table, name):
    """Return the number of the kind with a name."""
    if not isinstance(name, str) or name not in table.kinds:
        raise Refused("kind")
    return table.kinds.index(name)


def type_number(table, name):
    """Return the number of the type with a name."""
    names = type_names(table)
    if not isinstance(name, str) or name not in names:
        raise Refused("type")
    return names.index(name)


def accepted(table, request):
    """Return the lot of the kinds that a type accepts."""
    return table.types[request][1]


def takers(table, kind):
    """Return the lot of the types that accept a kind."""
    return types_of_kinds(table, (kind,))


def all_takers(table):
    """Return the takers of all kinds."""
    return tuple([takers(table, kind) for kind in range(len(table.kinds))])


def types_without(table, kind):
    """Return the lot of the types that do not accept a kind."""
    return tuple([request for request, (_, lot) in enumerate(table.types) if kind not in lot])


def kinds_of_types(table, types):
    """Return the lot of all kinds that some of these types accept."""
    return tuple(sorted({kind for request in types for kind in table.types[request][1]}))


def types_of_kinds(table, kinds):
    """Return the lot of all types that accept some of these kinds."""
    found = []
    for request, (_, lot) in enumerate(table.types):
        if any([kind in lot for kind in kinds]):
            found.append(request)
    return tuple(found)


def stock_fault(table, value):
    """Return `None` if any value is a stock for a table, otherwise -1 or the index of the first wrong item."""
    if not is_tuple_of(value, len(table.kinds)):
        return -1
    return first_false([is_number_below(item, MOST_UNITS + 1) for item in value])


def check_stock(table, value):
    """Raise `InvalidStock` unless any value is a stock for a table."""
    fault = stock_fault(table, value)
    if fault is not None:
        raise InvalidStock(fault)


def bounds_fault(table, value):
    """Return `None` if any value is bounds for a table, otherwise -1 or the index of the first wrong item."""
    if not is_tuple_of(value, len(table.types)):
        return -1
    return first_false([item is None or is_number_below(item, MOST_UNITS + 1) for item in value])


def check_bounds(table, value):
    """Raise `InvalidBounds` unless any value is bounds for a table."""
    fault = bounds_fault(table, value)
    if fault is not None:
        raise InvalidBounds(fault)


def row_fault(table, value):
    """Return `None` if any value is a row for a table, otherwise -1 or the index of the first wrong item."""
    if not isinstance(value, tuple) or len(value) > MOST_REQUESTS:
        return -1
    return first_false([is_number_below(item, len(table.types)) for item in value])


def check_row(table, value):
    """Raise `InvalidRow` unless any value is a row for a table."""
    fault = row_fault(table, value)
    if fault is not None:
        raise InvalidRow(fault)


def without_types(table, types):
    """Return the table without these types."""
    left = [item for request, item in enumerate(table.types) if request not in types]
    return Table(table.kinds, tuple(left))


def without_kinds(table, kinds):
    """Return the table without these kinds."""
    new = numbered_anew(len(table.kinds), kinds)
    if not new:
        raise Refused("kinds")
    types = []
    for name, lot in table.types:
        types.append((name, tuple([new[kind] for kind in lot if kind in new])))
    return Table(tuple([table.kinds[kind] for kind in new]), tuple(types))


def joined_kinds(table):
    """Return the table with one kind for all with equal takers, and the new numbers of the kinds."""
    places = places_of_equals(all_takers(table))
    return without_kinds(table, later_equals(places)), places


def joined_types(table):
    """Return the table with one type for all that accept equal lots, and the new numbers of the types."""
    places = places_of_equals([lot for _, lot in table.types])
    return without_types(table, later_equals(places)), places


def places_of_equals(lots):
    """Return for each lot the number of the first one equal to it, if only such first ones are counted."""
    firsts = []
    places = []
    for lot in lots:
        if lot not in firsts:
            firsts.append(lot)
        places.append(firsts.index(lot))
    return tuple(places)


def later_equals(places):
    """Return the lot of the indexes of all places that have stood before."""
    return tuple([at for at, place in enumerate(places) if place in places[:at]])
