"""Which kinds to hand out to a request, by the bounds of what can still come behind it."""

from neverregret.leastkinds import offered_kinds
from neverregret.safe import does_beat, worse_by_kind


def kinds_at_hand(table, stock, request):
    """Return the lot of the kinds with units that a type accepts."""
    return offered_kinds(table, stock, request)


def best_kinds(table, stock, bounds, request):
    """Return the lot of the kinds at hand that are safe against all of them."""
    kinds = kinds_at_hand(table, stock, request)
    worse = worse_by_kind(table, stock, bounds, kinds)
    return tuple([kind for kind in kinds if not any([kind in worse[other] for other in kinds])])


def unbeaten_kinds(table, stock, bounds, request):
    """Return the lot of the kinds at hand that none of them beats."""
    kinds = kinds_at_hand(table, stock, request)
    worse = worse_by_kind(table, stock, bounds, kinds)
    return tuple([kind for kind in kinds if not any([does_beat(worse, other, kind) for other in kinds])])
