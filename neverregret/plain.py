"""Servings, the most served, and regrets, found by trying.

The stocks that servings of a row leave are looked at one request after another, so that each stock is tried
once for each beginning of the row. This is why a stock has to be small for the requests of a row.
"""

from neverregret.basics import counts_of, is_number_below, is_tuple_of
from neverregret.errors import Refused
from neverregret.stocks import row_counts, unit_taken
from neverregret.tables import accepted

MOST_TRIALS = 20000
MOST_ROWS = 2000


def is_serving(table, stock, row, value):
    """Return whether any value is a serving of a row from a stock."""
    if not is_tuple_of(value, len(row)):
        return False
    for request, item in zip(row, value):
        if item is not None:
            if not is_number_below(item, len(stock)) or item not in accepted(table, request):
                return False
    return all([units >= 0 for units in left_stock(stock, value)])


def left_stock(stock, serving):
    """Return the stock that a serving leaves."""
    given = counts_of(serving, len(stock))
    return tuple([units - handed for units, handed in zip(stock, given)])


def is_refused_place(serving, value):
    """Return whether any value is a place that a serving refuses."""
    return is_number_below(value, len(serving)) and serving[value] is None


def check_small(stock, many):
    """Raise `Refused("size")` unless the stock with so many requests is small."""
    trials = many + 1
    for units in stock:
        trials *= units + 1
    if trials > MOST_TRIALS:
        raise Refused("size")


def stocks_behind(table, stocks, request):
    """Return a dict with each stock that some of the stocks leaves if it serves a request.

    It has for each one a pair: the stock that leaves it, and the kind handed out.
    """
    found = {}
    for stock in stocks:
        for kind in accepted(table, request):
            if stock[kind] > 0:
                found.setdefault(unit_taken(stock, kind), (stock, kind))
    return found


def lefts_of(table, stock, row):
    """Return the ascending tuple of all stocks that servings of a row leave."""
    check_small(stock, len(row))
    lefts = {stock: True}
    for request in row:
        behind = stocks_behind(table, lefts, request)
        for left in behind:
            lefts[left] = True
    return tuple(sorted(lefts))


def row_within(table, bounds, row):
    """Return whether a row is within bounds."""
    counts = row_counts(table, row)
    return all([bound is None or count <= bound for count, bound in zip(counts, bounds)])


def sorted_rows(table, bounds, length):
    """Return all ascending rows within bounds with at most so many requests, shorter ones first."""
    found = []
    longest = [()]
    while longest:
        found.extend(longest)
        if len(found) > MOST_ROWS:
            raise Refused("size")
        if len(longest[0]) == length:
            break
        longest = [row + (request,) for row in longest for request in requests_behind(table, bounds, row)]
    return tuple(found)


def requests_behind(table, bounds, row):
    """Return the types that can stand behind an ascending row, so that it ascends and stays within bounds."""
    found = []
    for request in range(row[-1] if row else 0, len(table.types)):
        if bounds[request] is None or row.count(request) < bounds[request]:
            found.append(request)
    return found


def most_served(table, stock, row):
    """Return the greatest number of requests of a row that one serving serves."""
    return sum(stock) - min([sum(left) for left in lefts_of(table, stock, row)])


def servable(table, stock, row):
    """Return whether a row has a serving without a refusal."""
    return most_served(table, stock, row) == len(row)


def regrets(table, stock, row, serving):
    """Return the lot of the places of a serving that are regrets."""
    check_small(stock, len(row))
    stocks = {stock: True}
    found = []
    for place, request in enumerate(row):
        behind = stocks_behind(table, stocks, request)
        if serving[place] is not None:
            stocks = behind
        elif behind:
            found.append(place)
    return tuple(found)


def steps_without(table, stock, row):
    """Return for each place what `stocks_behind` returns if all is served that can be, or `None`."""
    check_small(stock, len(row))
    stocks = {stock: True}
    steps = []
    for request in row:
        behind = stocks_behind(table, stocks, request)
        steps.append(behind if behind else None)
        stocks = behind if behind else stocks
    return steps


def kept_places(table, stock, row):
    """Return the lot of the places that all servings without regrets serve."""
    steps = steps_without(table, stock, row)
    return tuple([place for place, behind in enumerate(steps) if behind is not None])


def serving_without(table, stock, row):
    """Return some serving without regrets."""
    steps = steps_without(table, stock, row)
    serving = []
    left = None
    for behind in reversed(steps):
        if behind is None:
            serving.append(None)
        else:
            if left is None:
                left = min(list(behind))
            left, kind = behind[left]
            serving.append(kind)
    return tuple(reversed(serving))
