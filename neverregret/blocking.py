"""Lots of types that block a remake: too many places of theirs for the units that they can have."""

from neverregret.basics import is_lot_below
from neverregret.covers import cover_worth, least_cover
from neverregret.moves import stays
from neverregret.plain import left_stock


def those_to_serve(stock, row, serving, places, costs):
    """Return the stock without the units of places that stay, and the row of the others that must be served."""
    kept = []
    others = []
    for place, kind in enumerate(serving):
        if stays(serving, costs, place):
            kept.append(kind)
        elif kind is not None or place in places:
            others.append(row[place])
    return left_stock(stock, kept), tuple(others)


def do_types_block(table, stock, row, types):
    """Return whether a row has more requests of some types than there are units that they accept."""
    return cover_worth(table, stock, row, types) < len(row)


def blocking_types(table, stock, row, serving, places, costs):
    """Return some lot of types that blocks, or `None`."""
    left, others = those_to_serve(stock, row, serving, places, costs)
    cover = least_cover(table, left, others)
    return cover if do_types_block(table, left, others, cover) else None


def does_block(table, stock, row, serving, places, costs, value):
    """Return whether any value is a lot of types that blocks."""
    if not is_lot_below(value, len(table.types)):
        return False
    left, others = those_to_serve(stock, row, serving, places, costs)
    return do_types_block(table, left, others, value)
