"""Courses: servings of each beginning of a row, in which requests of movable types may be moved."""

from neverregret.basics import is_tuple_of
from neverregret.moves import cheapest_steps, moved_places, way_by_steps
from neverregret.plain import is_serving, left_stock
from neverregret.servings import turned_serving
from neverregret.tables import accepted, takers


def next_serving(table, stock, row, serving, movable):
    """Return some serving of a row that can come next in a course by the rule, behind one without the last request."""
    place = len(serving)
    refused = serving + (None,)
    costs = tuple([1 if request in movable else None for request in row])
    steps = cheapest_steps(table, row, refused, refused, costs)
    left = left_stock(stock, serving)
    kinds = accepted(table, row[place])
    if row[place] not in movable:
        kinds = fewest_takers_reached(table, steps, left, place, kinds)
    way = way_by_steps(steps, left, place, kinds)
    return refused if way is None else turned_serving(refused, way)


def fewest_takers_reached(table, steps, left, place, kinds):
    """Return the list of those with fewest takers of all kinds that a place can get."""
    reached = [kind for kind in kinds if way_by_steps(steps, left, place, (kind,)) is not None]
    fewest = min([len(takers(table, kind)) for kind in reached], default=0)
    return [kind for kind in reached if len(takers(table, kind)) == fewest]


def course_by_rule(table, stock, row, movable):
    """Return some course by the rule."""
    course = []
    serving = ()
    for length in range(1, len(row) + 1):
        serving = next_serving(table, stock, row[:length], serving, movable)
        course.append(serving)
    return tuple(course)


def is_course(table, stock, row, movable, value):
    """Return whether any value is a course."""
    if not is_tuple_of(value, len(row)):
        return False
    before = ()
    for at, serving in enumerate(value):
        if not is_serving(table, stock, row[:at + 1], serving) or not can_follow(row, movable, before, serving):
            return False
        before = serving
    return True


def can_follow(row, movable, before, serving):
    """Return whether a serving serves and refuses what the one before does, and moves movable types alone."""
    for request, old, new in zip(row, before, serving):
        if (old is None) != (new is None) or (old != new and request not in movable):
            return False
    return True


def course_moves(course):
    """Return how many moves there are from one serving to the next, in all."""
    return sum([len(moved_places(course[at], course[at + 1])) for at in range(len(course) - 1)])
