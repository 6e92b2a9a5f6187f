"""Which types must be movable so that some rule, which may move them, never has a regret."""

from neverregret.basics import changed_at
from neverregret.court import crossing_pairs, crossings_of
from neverregret.games import game_of, moment_behind, none_served
from neverregret.leastkinds import offered_kinds
from neverregret.takings import greatest_taking, taken_units


def types_to_move(table):
    """Return the lot of the types that accept two crossing kinds."""
    pairs = crossing_pairs(table)
    found = []
    for request, (_, lot) in enumerate(table.types):
        if any([one in lot and other in lot for one, other in pairs]):
            found.append(request)
    return tuple(found)


def are_enough(table, movable):
    """Return whether a lot of types has all that must be movable."""
    return all([request in movable for request in types_to_move(table)])


def fixed_crossing(table, movable):
    """Return the first crossing whose first type is not movable, or `None`."""
    for crossing in crossings_of(table):
        if crossing.types[0] not in movable:
            return crossing
    return None


def some_moving_rule(table, stock, bounds, movable):
    """Return whether some rule, which may move requests of movable types, never has a regret."""
    return can_go_on(game_of(table, stock, bounds), movable, none_served(table), stock)


def can_go_on(game, movable, counts, left):
    """Return whether some rule never has a regret from a moment on.

    What is left here is the stock without the units of those that stay: the others have any units of it.
    """
    if (counts, left) not in game.outcomes:
        game.outcomes[counts, left] = is_all_served(game, movable, counts, left)
    return game.outcomes[counts, left]


def is_all_served(game, movable, counts, left):
    """Return whether each request that has to be served now can be, so that the rule can go on."""
    for request in game.due_types(counts):
        later = moments_behind(game, movable, counts, left, request)
        if not any([can_go_on(game, movable, served, there) for served, there in later]):
            return False
    return True


def moments_behind(game, movable, counts, left, request):
    """Return the list of the moments that can come about if a request is served."""
    if request in movable:
        moments = [(changed_at(counts, request, 1), left)]
    else:
        moments = [moment_behind(counts, left, request, kind) for kind in offered_kinds(game.table, left, request)]
    return [(served, there) for served, there in moments if have_room(game.table, movable, served, there)]


def have_room(table, movable, counts, left):
    """Return whether so many requests of the movable types are servable together from a stock."""
    wanted = sum([counts[request] for request in movable])
    return taken_units(greatest_taking(table, left, counts, movable)) == wanted
