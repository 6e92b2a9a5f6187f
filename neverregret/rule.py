"""The rule: hand out, of the accepted kinds that are left, one with fewest takers."""

from neverregret.games import first_left, served_by_orders
from neverregret.plain import left_stock
from neverregret.tables import all_takers


def orders_of_rule(table):
    """Return the orders of the rule: the kinds of each type by how many takers they have, then ascending."""
    many = [len(lot) for lot in all_takers(table)]
    return tuple([tuple(sorted(lot, key=lambda kind: many[kind])) for _, lot in table.types])


def fewest_takers(table, stock, request):
    """Return the kind that the rule hands out to a request, or `None`."""
    return first_left(stock, orders_of_rule(table)[request])


def served_by_rule(table, stock, row):
    """Return the serving of a row by the rule."""
    return served_by_orders(table, stock, row, orders_of_rule(table))


def left_by_rule(table, stock, row):
    """Return the stock that the serving by the rule leaves."""
    return left_stock(stock, served_by_rule(table, stock, row))
