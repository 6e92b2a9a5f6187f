"""Cheapest repairs of tables with crossing kinds, and papers that show that none costs less.

Each repair strikes some item of each crossing. So the items of one crossing are struck in turn, and whoever
strikes an item keeps those ahead of it, as what strikes these was looked at before.
"""

from neverregret.basics import are_numbers, is_number, is_tuple_of
from neverregret.court import Crossing, court, crossing_fault
from neverregret.errors import InvalidNumber, Refused
from neverregret.striking import is_repair, items_for, strike_cost, struck_table

MOST_ACCEPTANCES = 16


class RepairPaper:
    """A cost, a repair that costs so much, and a tree that shows that none costs less."""

    def __init__(self, cost, lot, tree):
        self.cost = cost
        self.lot = lot
        self.tree = tree


def check_costs(table, way, costs):
    """Raise what is wrong with a way or with any value as costs, or `Refused("size")` for too many acceptances."""
    items = items_for(table, way)
    if not are_numbers(costs, len(items)):
        raise InvalidNumber("costs")
    if way == "accepted" and len(items) > MOST_ACCEPTANCES:
        raise Refused("size")


def items_of_crossing(way, crossing):
    """Return the ascending list of the items of a crossing."""
    if way == "kinds":
        return sorted(crossing.kinds)
    if way == "types":
        return sorted(crossing.types)
    one, other = crossing.kinds
    both, first, second = crossing.types
    return sorted([(both, one), (both, other), (first, one), (second, other)])


def branches(way, crossing, struck, kept):
    """Return for each item of a crossing that is not kept the items struck and those kept if it is struck."""
    items = [item for item in items_of_crossing(way, crossing) if item not in kept]
    return [(tuple(sorted(struck + (item,))), kept + tuple(items[:at])) for at, item in enumerate(items)]


def cheapest_repair(table, way, costs):
    """Return the least cost of a repair, and some repair that costs so much."""
    check_costs(table, way, costs)
    return cheapest_behind(table, way, costs, (), (), None)


def cheapest_behind(table, way, costs, struck, kept, best):
    """Return the cheapest of the best repair so far, or `None`, and those with all struck and no kept items."""
    cost = strike_cost(table, way, costs, struck)
    if best is not None and cost >= best[0]:
        return best
    verdict = court(struck_table(table, way, struck))
    if not isinstance(verdict, Crossing):
        return cost, struck
    cheapest = best
    for more, further in branches(way, verdict, struck, kept):
        cheapest = cheapest_behind(table, way, costs, more, further, cheapest)
    return cheapest


def repair_paper(table, way, costs):
    """Return some right paper."""
    cost, lot = cheapest_repair(table, way, costs)
    return RepairPaper(cost, lot, tree_behind(table, way, costs, cost, (), ()))


def tree_behind(table, way, costs, cost, struck, kept):
    """Return a tree that is right for a cost that no repair falls below, and for struck and kept items."""
    if strike_cost(table, way, costs, struck) >= cost:
        return ("dear",)
    crossing = court(struck_table(table, way, struck))
    trees = [tree_behind(table, way, costs, cost, more, further)
             for more, further in branches(way, crossing, struck, kept)]
    return "cross", (crossing.kinds, crossing.types), tuple(trees)


def is_repair_paper(table, way, costs, value):
    """Return whether any value is a right paper."""
    check_costs(table, way, costs)
    if not isinstance(value, RepairPaper) or not is_repair(table, way, value.lot):
        return False
    if not is_number(value.cost) or value.cost != strike_cost(table, way, costs, value.lot):
        return False
    return is_tree(table, way, costs, value.cost, (), (), value.tree)


def is_tree(table, way, costs, cost, struck, kept, value):
    """Return whether any value is a tree that is right for a cost, and for struck and kept items."""
    if not isinstance(value, tuple) or not value or not isinstance(value[0], str):
        return False
    if value[0] == "dear":
        return len(value) == 1 and strike_cost(table, way, costs, struck) >= cost
    if value[0] != "cross" or len(value) != 3 or not is_tuple_of(value[1], 2):
        return False
    crossing = Crossing(value[1][0], value[1][1])
    if crossing_fault(struck_table(table, way, struck), crossing) is not None:
        return False
    pairs = branches(way, crossing, struck, kept)
    if not is_tuple_of(value[2], len(pairs)):
        return False
    return all([is_tree(table, way, costs, cost, more, further, tree)
                for (more, further), tree in zip(pairs, value[2])])
