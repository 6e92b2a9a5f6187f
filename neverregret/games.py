"""Orders of the accepted kinds, and the game of a rule against whatever comes: plans and attacks.

A moment of the game is told by two tuples: how many requests of each type were served so far, and the stock
left. The same moment can come about in many ways, so that what is known of it is kept.
"""

from neverregret.basics import are_numbers_below, changed_at, is_number_below, is_tuple_of
from neverregret.errors import Refused
from neverregret.flows import most_taken, way_to_unit
from neverregret.leastkinds import offered_kinds
from neverregret.sequences import all_sequences, many_sequences
from neverregret.stocks import unit_taken

MOST_ORDERS = 2000
MOST_GAMES = 2000


def is_orders(table, value):
    """Return whether any value is orders: for each type all kinds that it accepts, in any sequence."""
    if not is_tuple_of(value, len(table.types)):
        return False
    for (_, lot), order in zip(table.types, value):
        if not are_numbers_below(order, len(table.kinds)) or tuple(sorted(order)) != lot:
            return False
    return True


def all_orders(table):
    """Return the ascending tuple of all orders."""
    many = 1
    for _, lot in table.types:
        many *= many_sequences(lot, MOST_ORDERS)
        if many > MOST_ORDERS:
            raise Refused("size")
    found = [()]
    for _, lot in table.types:
        found = [orders + (order,) for orders in found for order in all_sequences(lot)]
    return tuple(found)


def first_left(left, order):
    """Return the first kind of an order of which a unit is left, or `None`."""
    for kind in order:
        if left[kind] > 0:
            return kind
    return None


def served_by_orders(table, stock, row, orders):
    """Return the serving that gives to each request the first kind in its type's order that is left."""
    left = list(stock)
    serving = []
    for request in row:
        kind = first_left(left, orders[request])
        if kind is not None:
            left[kind] -= 1
        serving.append(kind)
    return tuple(serving)


class Game:
    """The game for a table, a stock and bounds, and what is known of its moments."""

    def __init__(self, table, stock, bounds):
        self.table = table
        self.stock = stock
        self.bounds = bounds
        self.due = {}
        self.outcomes = {}

    def due_types(self, counts):
        """Return the types of which one more request would have to be served, behind so many served ones."""
        if counts not in self.due:
            types = tuple(range(len(counts)))
            taken, left = most_taken(self.table, self.stock, counts, types)
            due = []
            for request in types:
                if counts[request] != self.bounds[request]:
                    if way_to_unit(self.table, taken, left, request) is not None:
                        due.append(request)
            self.due[counts] = tuple(due)
        return self.due[counts]


def game_of(table, stock, bounds):
    """Return the game at its beginning, or raise `Refused("size")` if it is too large."""
    games = 1
    for _ in range(sum(stock)):
        games *= len(table.types) + 1
        if games > MOST_GAMES:
            raise Refused("size")
    return Game(table, stock, bounds)


def none_served(table):
    """Return the counts of served requests at the beginning of a game."""
    return (0,) * len(table.types)


def moment_behind(counts, left, request, kind):
    """Return the moment behind one more request of a type that gets a unit of a kind."""
    return changed_at(counts, request, 1), unit_taken(left, kind)


def outcome(game, counts, left):
    """Return `("plan", plan)` or `("attack", attack)` for a moment of a game."""
    if (counts, left) not in game.outcomes:
        game.outcomes[counts, left] = new_outcome(game, counts, left)
    return game.outcomes[counts, left]


def new_outcome(game, counts, left):
    """Return the outcome of a moment that was not looked at before."""
    plan = [None] * len(counts)
    for request in game.due_types(counts):
        attacks = []
        for kind in offered_kinds(game.table, left, request):
            later_counts, later_left = moment_behind(counts, left, request, kind)
            word, told = outcome(game, later_counts, later_left)
            if word == "plan":
                plan[request] = (kind, told)
                break
            attacks.append(told)
        if plan[request] is None:
            return "attack", (request, tuple(attacks))
    return "plan", tuple(plan)


def never_plan(table, stock, bounds):
    """Return `("plan", plan)` with some plan, or `("attack", attack)` with some attack."""
    return outcome(game_of(table, stock, bounds), none_served(table), stock)


def some_rule(table, stock, bounds):
    """Return whether there is a plan."""
    return never_plan(table, stock, bounds)[0] == "plan"


def is_never_plan(table, stock, bounds, value):
    """Return whether any value is a plan."""
    return is_plan_at(game_of(table, stock, bounds), none_served(table), stock, value)


def is_plan_at(game, counts, left, value):
    """Return whether any value is a plan for what follows a moment."""
    if not is_tuple_of(value, len(counts)):
        return False
    due = game.due_types(counts)
    for request, item in enumerate(value):
        if request not in due:
            if item is not None:
                return False
        elif not is_step_at(game, counts, left, request, item):
            return False
    return True


def is_step_at(game, counts, left, request, value):
    """Return whether any value is a pair of a kind for a request and a plan for what follows."""
    if not is_tuple_of(value, 2) or not is_number_below(value[0], len(left)):
        return False
    if value[0] not in offered_kinds(game.table, left, request):
        return False
    later_counts, later_left = moment_behind(counts, left, request, value[0])
    return is_plan_at(game, later_counts, later_left, value[1])


def is_attack(table, stock, bounds, value):
    """Return whether any value is an attack."""
    return is_attack_at(game_of(table, stock, bounds), none_served(table), stock, value)


def is_attack_at(game, counts, left, value):
    """Return whether any value is an attack for what follows a moment."""
    if not is_tuple_of(value, 2) or not is_number_below(value[0], len(counts)):
        return False
    request, attacks = value
    if request not in game.due_types(counts):
        return False
    offered = offered_kinds(game.table, left, request)
    if not is_tuple_of(attacks, len(offered)):
        return False
    for kind, attack in zip(offered, attacks):
        later_counts, later_left = moment_behind(counts, left, request, kind)
        if not is_attack_at(game, later_counts, later_left, attack):
            return False
    return True


def served_by_plan(table, stock, row, plan):
    """Return the serving that a plan makes of a row within its bounds."""
    serving = []
    present = plan
    for request in row:
        if present[request] is None:
            serving.append(None)
        else:
            kind, present = present[request]
            serving.append(kind)
    return tuple(serving)


def attack_row(table, stock, attack, orders):
    """Return the row that an attack makes against orders."""
    row = []
    left = stock
    present = attack
    while present is not None:
        request, attacks = present
        row.append(request)
        kind = first_left(left, orders[request])
        present = None
        if kind is not None:
            present = attacks[offered_kinds(table, left, request).index(kind)]
            left = unit_taken(left, kind)
    return tuple(row)
