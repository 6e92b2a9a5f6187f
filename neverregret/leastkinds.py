"""Least kinds, and rows that show which kinds are none."""

from neverregret.basics import is_number_below
from neverregret.errors import Refused
from neverregret.stocks import units_in
from neverregret.tables import accepted, takers


def offered_kinds(table, stock, request):
    """Return the kinds offered to a request: accepted, with units left."""
    return tuple([kind for kind in accepted(table, request) if stock[kind] > 0])


def least_kinds(table, stock, request):
    """Return the lot of the offered kinds whose takers are takers of every other offered kind."""
    offered = offered_kinds(table, stock, request)
    return tuple([kind for kind in offered if lacking_taker(table, kind, offered) is None])


def lacking_taker(table, kind, others):
    """Return the first taker of a kind that does not accept each of some others, or `None`."""
    for request in takers(table, kind):
        if any([other not in accepted(table, request) for other in others]):
            return request
    return None


def wrong_row(table, stock, request, kind):
    """Return `None` for a least kind, otherwise some row behind which this kind is a regret."""
    offered = offered_kinds(table, stock, request)
    if not is_number_below(kind, len(stock)) or kind not in offered:
        raise Refused("kind")
    taker = lacking_taker(table, kind, offered)
    if taker is None:
        return None
    # These requests could have all units that their type accepts, and the first request an offered one that it
    # does not accept. With the kind gone, one of them is refused.
    return (taker,) * units_in(stock, accepted(table, taker))
