"""What the tests of houses with answers use: random houses, and all deeds that answer a request."""

import itertools

from neverregret.houses import House, is_deed


def random_house(rng, table, most_guests=3, limits=(None, None, 0, 1, 2), units=(0, 0, 1, 2)):
    """Return a small house for a table, with guests whose numbers may leave gaps."""
    stock = tuple(rng.choice(units) for _ in table.kinds)
    takable = [(request, kind) for request, (_, lot) in enumerate(table.types) for kind in lot]
    numbers = sorted(rng.sample(range(6), rng.randint(0, most_guests))) if takable else ()
    guests = tuple((number,) + rng.choice(takable) for number in numbers)
    return House(stock, tuple(rng.choice(limits) for _ in table.types), guests)


def serving_deeds(table, house, request):
    """Return all deeds that can be done in a house and serve a request."""
    found = []
    for news in itertools.product(*[table.types[of_guest][1] for _, of_guest, _ in house.guests]):
        moves = tuple((number, new) for (number, _, kind), new in zip(house.guests, news) if new != kind)
        for kind in table.types[request][1]:
            deed = ("serve", request, kind, moves)
            if is_deed(table, house, deed):
                found.append(deed)
    return found


def full_house(guests, table, stock, bounds):
    """Return a house with so many guests, all of whom have a unit that their type accepts, in turn."""
    takable = [(request, kind) for request, (_, lot) in enumerate(table.types) for kind in lot]
    return House(stock, bounds, tuple((number,) + takable[number % len(takable)] for number in range(guests)))
