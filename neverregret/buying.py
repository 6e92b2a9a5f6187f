"""Units bought and sold along a forest, one after another, for prices.

A unit helps exactly if its place is dry, and can be missed exactly if some unit is left over on the way up from
its place. Bought or sold units never make another one help, or be missed, that did not before. So each kind has
its one turn, in which as many of its units are bought or sold as can be.
"""

from neverregret.basics import are_numbers, changed_at, is_number
from neverregret.errors import InvalidNumber
from neverregret.forests import place_of_kind, way_up
from neverregret.upward import overflows, spare_units


def check_prices(stock, prices):
    """Raise `InvalidNumber("prices")` unless any value is prices for the kinds of a stock."""
    if not are_numbers(prices, len(stock)):
        raise InvalidNumber("prices")


def purchases_in_turn(forest, stock, counts, prices):
    """Return the kinds of the units bought one after another, each the cheapest that helps."""
    check_prices(stock, prices)
    bought = []
    present = stock
    for kind in sorted(range(len(stock)), key=lambda kind: prices[kind]):
        many = helping_units(forest, present, counts, kind)
        bought.extend([kind] * many)
        present = changed_at(present, kind, many)
    return tuple(bought)


def helping_units(forest, stock, counts, kind):
    """Return how many units of a kind help: as many as overflow from each place on the way up."""
    over = overflows(forest, stock, counts)
    return min([over[place] for place in way_up(forest, place_of_kind(forest, kind))], default=0)


def price_of_all(forest, stock, counts, prices):
    """Return the sum of the prices of all purchases, `None` if a request has no home."""
    bought = purchases_in_turn(forest, stock, counts, prices)
    if any([home == -1 and count > 0 for home, count in zip(forest.homes, counts)]):
        return None
    return sum([prices[kind] for kind in bought])


def purchase_for(forest, stock, counts, prices, money):
    """Return the first purchases, as many as a sum of money is enough for."""
    bought = purchases_in_turn(forest, stock, counts, prices)
    if not is_number(money):
        raise InvalidNumber("money")
    spent = 0
    for at, kind in enumerate(bought):
        spent += prices[kind]
        if spent > money:
            return bought[:at]
    return bought


def sales_in_turn(forest, stock, counts, prices):
    """Return the kinds of the units sold one after another, each the dearest that can be missed."""
    check_prices(stock, prices)
    sold = []
    present = stock
    for kind in sorted(range(len(stock)), key=lambda kind: -prices[kind]):
        many = missable_units(forest, present, counts, kind)
        sold.extend([kind] * many)
        present = changed_at(present, kind, -many)
    return tuple(sold)


def missable_units(forest, stock, counts, kind):
    """Return how many units of a kind can be missed together."""
    place = place_of_kind(forest, kind)
    if place == -1:
        return stock[kind]
    spare = spare_units(forest, stock, counts)
    return min(stock[kind], sum([spare[higher] for higher in way_up(forest, place)]))
