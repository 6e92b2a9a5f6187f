"""Prices of units, by which no remake costs less; and papers that show it."""

from neverregret.basics import are_numbers
from neverregret.moves import cheapest_remake, cheapest_steps, cost_of_kind, is_remake, remake_cost, stays
from neverregret.plain import left_stock
from neverregret.tables import accepted


def prices_by_steps(steps, prices):
    """Return prices lowered until no kind costs more than another one and the step to it: `None` is no price."""
    lowered = list(prices)
    changed = True
    while changed:
        changed = False
        for (kind, further), (cost, _) in steps.items():
            price = lowered[further]
            if price is not None and (lowered[kind] is None or price + cost < lowered[kind]):
                lowered[kind] = price + cost
                changed = True
    return tuple(lowered)


def unit_prices(table, stock, row, serving, costs):
    """Return for each kind the least cost of a remake that leaves a unit of it, `None` if there is none."""
    steps = cheapest_steps(table, row, serving, serving, costs)
    return prices_by_steps(steps, [0 if units > 0 else None for units in left_stock(stock, serving)])


def prices_worth(table, stock, row, serving, places, costs, prices):
    """Return the worth of prices, `None` if a place that a remake must serve accepts no kind."""
    worth = 0
    for place, kind in enumerate(serving):
        if stays(serving, costs, place):
            worth += prices[kind]
        elif kind is not None or place in places:
            sums = []
            for further in accepted(table, row[place]):
                sums.append(prices[further] + cost_of_kind(serving, costs, place, further))
            if not sums:
                return None
            worth += min(sums)
    return worth - sum([price * units for price, units in zip(prices, stock)])


class RemakePaper:
    """A remake, and prices whose worth is its cost."""

    def __init__(self, remake, prices):
        self.remake = remake
        self.prices = prices

    def __eq__(self, other):
        return isinstance(other, RemakePaper) and self.remake == other.remake and self.prices == other.prices


def remake_paper(table, stock, row, serving, places, costs):
    """Return some right paper, `None` if there is no remake."""
    remake = cheapest_remake(table, stock, row, serving, places, costs)
    if remake is None:
        return None
    steps = cheapest_steps(table, row, serving, remake, costs)
    # what no step leads from to a unit that is left may cost as much as all moves together, so that no price
    # falls below 0
    dear = sum([cost for cost in costs if cost is not None])
    prices = prices_by_steps(steps, [0 if units > 0 else dear for units in left_stock(stock, remake)])
    return RemakePaper(remake, prices)


def is_remake_paper(table, stock, row, serving, places, costs, value):
    """Return whether any value is a right paper."""
    if not isinstance(value, RemakePaper) or not are_numbers(value.prices, len(stock)):
        return False
    if not is_remake(table, stock, row, serving, places, costs, value.remake):
        return False
    worth = prices_worth(table, stock, row, serving, places, costs, value.prices)
    return worth == remake_cost(serving, costs, value.remake)
