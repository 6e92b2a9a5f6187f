"""Tables under other names, told by takers, and in pieces."""

from neverregret.basics import are_numbers_below, are_unlike_names, is_tuple_of
from neverregret.errors import Refused
from neverregret.tables import Table, accepted, kinds_of_types, takers, types_of_kinds, without_kinds, without_types


def renamed_table(table, kinds, types):
    """Return the table with other names, and the new number of each kind and of each type."""
    if not are_unlike_names(kinds, len(table.kinds)):
        raise Refused("kinds")
    if not are_unlike_names(types, len(table.types)):
        raise Refused("types")
    new_kinds = tuple(sorted(kinds))
    new_types = tuple(sorted(types))
    kind_places = tuple([new_kinds.index(name) for name in kinds])
    type_places = tuple([new_types.index(name) for name in types])
    pairs = []
    for name in new_types:
        lot = accepted(table, types.index(name))
        pairs.append((name, tuple(sorted([kind_places[kind] for kind in lot]))))
    return Table(new_kinds, tuple(pairs)), kind_places, type_places


def table_by_takers(kinds, types, lots):
    """Return the table of these kinds and names of types in which the lots are the takers of the kinds."""
    if not is_tuple_of(lots, len(kinds)) or not all([are_takers(lot, len(types)) for lot in lots]):
        raise Refused("takers")
    pairs = []
    for request, name in enumerate(types):
        pairs.append((name, tuple([kind for kind, lot in enumerate(lots) if request in lot])))
    return Table(kinds, tuple(pairs))


def are_takers(value, many_types):
    """Return whether any value is a tuple of numbers of types, each once."""
    return are_numbers_below(value, many_types) and len(set(value)) == len(value)


def pieces(table):
    """Return all pieces: those with a kind by their first kinds, then those of a type that accepts none."""
    found = []
    seen = {}
    for kind in range(len(table.kinds)):
        if kind not in seen:
            piece = piece_with_kind(table, kind)
            found.append(piece)
            seen.update({other: True for other in piece[0]})
    for request, (_, lot) in enumerate(table.types):
        if not lot:
            found.append(((), (request,)))
    return tuple(found)


def piece_with_kind(table, kind):
    """Return the piece that a kind is in."""
    kinds = ()
    wider = (kind,)
    while wider != kinds:
        kinds = wider
        # a kind without takers leads to no type, so that the way back does not lead to it
        wider = tuple(sorted(set(kinds + kinds_of_types(table, types_of_kinds(table, kinds)))))
    return kinds, types_of_kinds(table, kinds)


def piece_table(table, piece):
    """Return the table of what is in a piece alone."""
    kinds, types = piece
    fewer = without_kinds(table, [kind for kind in range(len(table.kinds)) if kind not in kinds])
    return without_types(fewer, [request for request in range(len(table.types)) if request not in types])


def are_alike(table, one, other):
    """Return whether two kinds have equal takers."""
    return takers(table, one) == takers(table, other)
