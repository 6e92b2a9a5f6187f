"""Servings joined: with all places of one, and with all units of another one."""

from neverregret.basics import counts_of
from neverregret.servings import greatest_serving


def joined_serving(one, other):
    """Return some serving that serves all places of one serving, and hands out all units of another one."""
    joined = list(one)
    length = 1 + max([kind for kind in one + other if kind is not None], default=-1)
    lacks = [there - here for here, there in zip(counts_of(one, length), counts_of(other, length))]
    # A place that goes over to the other serving never comes back, and who gives up a kind gets another one. So
    # this ends, with all places served that were.
    while max(lacks, default=0) > 0:
        for place, kind in enumerate(other):
            if kind is not None and kind != joined[place] and lacks[kind] > 0:
                lacks[kind] -= 1
                if joined[place] is not None:
                    lacks[joined[place]] += 1
                joined[place] = kind
    return tuple(joined)


def serving_with_both(table, stock, row, places, units):
    """Return some serving that serves all places and hands out at least so many units of each kind, or `None`."""
    if any([many > there for many, there in zip(units, stock)]):
        return None
    with_places = serving_of_places(table, stock, row, places)
    # from a stock with just these units the most that can be served is to hand out all of them
    with_units = greatest_serving(table, units, row)
    if with_places is None or counts_of(with_units, len(units)) != units:
        return None
    return joined_serving(with_places, with_units)


def serving_of_places(table, stock, row, places):
    """Return some serving that serves all places of a lot and no others, or `None`."""
    serving = [None] * len(row)
    part = greatest_serving(table, stock, tuple([row[place] for place in places]))
    if None in part:
        return None
    for place, kind in zip(places, part):
        serving[place] = kind
    return tuple(serving)
