"""Houses: the units left, the bounds of what can still come, and guests; and deeds done in them."""

from neverregret.basics import changed_at, is_number_below, is_tuple_of
from neverregret.stocks import bounds_after
from neverregret.tables import accepted, bounds_fault, stock_fault

MOST_GUESTS = 400


class House:
    """Units left, bounds, and an ascending tuple of guests `(number, request, kind)`."""

    def __init__(self, stock, bounds, guests):
        self.stock = stock
        self.bounds = bounds
        self.guests = guests

    def __eq__(self, other):
        return (isinstance(other, House) and self.stock == other.stock
                and self.bounds == other.bounds and self.guests == other.guests)


def is_house(table, value):
    """Return whether any value is a house for a table."""
    if not isinstance(value, House):
        return False
    if stock_fault(table, value.stock) is not None or bounds_fault(table, value.bounds) is not None:
        return False
    if not are_guests(table, value.guests):
        return False
    return stock_fault(table, whole_stock(value)) is None


def are_guests(table, value):
    """Return whether any value is an ascending tuple of guests with unlike numbers."""
    if not isinstance(value, tuple):
        return False
    last = -1
    for item in value:
        if not is_guest(table, item) or item[0] <= last:
            return False
        last = item[0]
    return True


def is_guest(table, value):
    """Return whether any value is a guest: a number, a type and a kind that it accepts."""
    if not is_tuple_of(value, 3) or not is_number_below(value[0], MOST_GUESTS):
        return False
    if not is_number_below(value[1], len(table.types)) or not is_number_below(value[2], len(table.kinds)):
        return False
    return value[2] in accepted(table, value[1])


def whole_stock(house):
    """Return the stock with the units of guests."""
    stock = house.stock
    for kind in guest_serving(house):
        stock = changed_at(stock, kind, 1)
    return stock


def guest_row(house):
    """Return the types of all guests."""
    return tuple([request for _, request, _ in house.guests])


def guest_serving(house):
    """Return the kinds of all guests."""
    return tuple([kind for _, _, kind in house.guests])


def is_deed(table, house, value):
    """Return whether any value is a deed that can be done in a house."""
    if not isinstance(value, tuple) or len(value) < 2 or not isinstance(value[0], str):
        return False
    word = value[0]
    if word == "serve":
        return len(value) == 4 and is_serving_deed(table, house, value)
    if len(value) != 2:
        return False
    if word == "refuse":
        return can_come(table, house, value[1])
    if word == "leave":
        return is_guest_number(house, value[1])
    if word == "move":
        return are_moves(table, house, value[1])
    return word == "bounds" and bounds_fault(table, value[1]) is None


def can_come(table, house, value):
    """Return whether any value is a type with a bound that is not 0."""
    return is_number_below(value, len(table.types)) and house.bounds[value] != 0


def is_guest_number(house, value):
    """Return whether any value is the number of a guest."""
    return is_number_below(value, MOST_GUESTS) and value in [number for number, _, _ in house.guests]


def is_serving_deed(table, house, deed):
    """Return whether the items of a deed that serves, of any values, are such that it can be done."""
    _, request, kind, moves = deed
    if not can_come(table, house, request) or len(house.guests) >= MOST_GUESTS:
        return False
    if not is_number_below(kind, len(table.kinds)) or kind not in accepted(table, request):
        return False
    return are_moves(table, house, moves) and stock_behind(house, moves)[kind] > 0


def are_moves(table, house, value):
    """Return whether any value is moves of unlike guests that can be made all at once."""
    if not isinstance(value, tuple):
        return False
    guests = {number: (request, kind) for number, request, kind in house.guests}
    last = -1
    for item in value:
        if not is_tuple_of(item, 2) or not is_guest_number(house, item[0]) or item[0] <= last:
            return False
        request, kind = guests[item[0]]
        if not is_number_below(item[1], len(table.kinds)) or item[1] == kind:
            return False
        if item[1] not in accepted(table, request):
            return False
        last = item[0]
    return all([units >= 0 for units in stock_behind(house, value)])


def stock_behind(house, moves):
    """Return the units left behind moves, below 0 where there are not enough."""
    new = {number: kind for number, kind in moves}
    stock = house.stock
    for number, _, kind in house.guests:
        if number in new:
            stock = changed_at(changed_at(stock, kind, 1), new[number], -1)
    return stock


def guests_behind(house, moves):
    """Return the guests behind moves."""
    new = {number: kind for number, kind in moves}
    return tuple([(number, request, new.get(number, kind)) for number, request, kind in house.guests])


def house_after(table, house, deed):
    """Return the house behind a deed that can be done in it."""
    word = deed[0]
    if word == "serve":
        return house_served(house, deed)
    if word == "refuse":
        return House(house.stock, bounds_after(house.bounds, deed[1]), house.guests)
    if word == "leave":
        kind = [kind for number, _, kind in house.guests if number == deed[1]][0]
        guests = tuple([guest for guest in house.guests if guest[0] != deed[1]])
        return House(changed_at(house.stock, kind, 1), house.bounds, guests)
    if word == "move":
        return House(stock_behind(house, deed[1]), house.bounds, guests_behind(house, deed[1]))
    return House(house.stock, deed[1], house.guests)


def house_served(house, deed):
    """Return the house behind a deed that serves."""
    _, request, kind, moves = deed
    stock = changed_at(stock_behind(house, moves), kind, -1)
    guests = list(guests_behind(house, moves)) + [(free_number(house), request, kind)]
    return House(stock, bounds_after(house.bounds, request), tuple(sorted(guests)))


def free_number(house):
    """Return the least number that no guest has."""
    free = 0
    # the numbers ascend, so that the first one that is not next leaves a number free
    for number, _, _ in house.guests:
        if number == free:
            free += 1
    return free


def house_after_all(table, house, deeds):
    """Return the house behind a tuple of deeds, one after another."""
    for deed in deeds:
        house = house_after(table, house, deed)
    return house
