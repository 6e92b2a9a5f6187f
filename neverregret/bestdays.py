"""Best days: rows served with best kinds alone, as if all that comes had been known."""

from neverregret.basics import changed_at, is_number_below
from neverregret.choices import best_kinds, kinds_at_hand
from neverregret.stocks import bounds_after


def best_day(table, stock, bounds, row):
    """Return some best day as long as the row, or up to a request with kinds at hand, but no best one."""
    left = stock
    present = bounds
    day = []
    for request in row:
        present = bounds_after(present, request)
        kind = None
        if kinds_at_hand(table, left, request):
            best = best_kinds(table, left, present, request)
            if not best:
                break
            kind = best[0]
            left = changed_at(left, kind, -1)
        day.append(kind)
    return tuple(day)


def is_best_day(table, stock, bounds, row, value):
    """Return whether any value is a best day."""
    if not isinstance(value, tuple) or len(value) > len(row):
        return False
    left = stock
    present = bounds
    for request, item in zip(row, value):
        present = bounds_after(present, request)
        if item is None:
            if kinds_at_hand(table, left, request):
                return False
        else:
            if not is_number_below(item, len(stock)) or item not in best_kinds(table, left, present, request):
                return False
            left = changed_at(left, item, -1)
    return True
