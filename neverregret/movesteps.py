"""The steps from a serving to a remake of it, one place after another."""

from neverregret.plain import left_stock


def move_order(stock, serving, remake):
    """Return some tuple of all places whose kinds differ, in which each finds a unit of its new kind left."""
    left = list(left_stock(stock, serving))
    waiting = [place for place, kind in enumerate(remake) if kind != serving[place]]
    order = []
    while waiting:
        # Whoever waits frees a unit for another one, unless they wait for each other in a circle. To move on in
        # a circle costs something for nothing, so that a remake of least cost has none.
        place = [place for place in waiting if left[remake[place]] > 0][0]
        left[remake[place]] -= 1
        if serving[place] is not None:
            left[serving[place]] += 1
        waiting.remove(place)
        order.append(place)
    return tuple(order)


def steps_between(serving, remake, order):
    """Return the serving and those that come about behind each place of a sequence."""
    present = list(serving)
    steps = [serving]
    for place in order:
        present[place] = remake[place]
        steps.append(tuple(present))
    return tuple(steps)
