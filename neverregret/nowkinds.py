"""Which unit to hand out now, if requests may leave: told by takers, and shown on days."""

from neverregret.days import left_on_day
from neverregret.errors import Refused
from neverregret.stocks import units_in
from neverregret.tables import accepted, takers


def is_never_worse_now(table, returning, request, one, other):
    """Return whether one kind is never worse than another one for a request, whatever comes and leaves."""
    if request in returning:
        return takers(table, one) == takers(table, other)
    return lone_taker(table, one, other) is None


def lone_taker(table, one, other):
    """Return the first type that accepts the one kind and not the other one, or `None`."""
    for request in takers(table, one):
        if other not in accepted(table, request):
            return request
    return None


def best_now(table, returning, left, request):
    """Return the lot of the accepted kinds with units that are never worse than each other such kind."""
    offered = [kind for kind in accepted(table, request) if left[kind] > 0]
    best = []
    for one in offered:
        if all([is_never_worse_now(table, returning, request, one, other) for other in offered]):
            best.append(one)
    return tuple(best)


def worse_day(table, stock, returning, day, serving, request, one, other):
    """Return `None` if a kind is never worse than another one, otherwise some day on which it is."""
    left = left_on_day(stock, day, serving)
    for kind in (one, other):
        if kind not in accepted(table, request) or left[kind] == 0:
            raise Refused("unit")
    if is_never_worse_now(table, returning, request, one, other):
        return None
    begin = day + (("comes", request),)
    taker = lone_taker(table, one, other)
    if taker is not None:
        # they could have all units that they accept, had the one kind not been handed out
        return begin + (("comes", taker),) * units_in(left, accepted(table, taker))
    taker = lone_taker(table, other, one)
    same = units_in(left, accepted(table, request)) - 1
    rest = [kind for kind in accepted(table, taker) if kind not in accepted(table, request)]
    # All other units that both types accept are used up. Then the request leaves, and the unit that comes back
    # can be used by one more of the type that accepts the other kind alone.
    return (begin + (("comes", request),) * same + (("comes", taker),) * units_in(left, rest)
            + (("leaves", len(day)), ("comes", taker)))
