"""Days on which requests come and leave, and servings of them."""

from neverregret.basics import counts_of, is_number, is_number_below, is_tuple_of
from neverregret.tables import accepted

MOST_EVENTS = 4000


def is_day(table, returning, value):
    """Return whether any value is a day on which only requests of returning types leave."""
    if not isinstance(value, tuple) or len(value) > MOST_EVENTS:
        return False
    here = {}
    for at, event in enumerate(value):
        if not is_event(event):
            return False
        word, number = event
        if word == "comes":
            if number >= len(table.types):
                return False
            here[at] = number
        else:
            if number not in here or here[number] not in returning:
                return False
            del here[number]
    return True


def is_event(value):
    """Return whether any value is a pair of the word of an event and a number."""
    if not is_tuple_of(value, 2) or not isinstance(value[0], str):
        return False
    return value[0] in ("comes", "leaves") and is_number(value[1])


def is_day_serving(table, stock, day, value):
    """Return whether any value is a serving of a day."""
    if not is_tuple_of(value, len(day)):
        return False
    left = list(stock)
    for (word, number), item in zip(day, value):
        if word == "leaves":
            if item is not None:
                return False
            if value[number] is not None:
                left[value[number]] += 1
        elif item is not None:
            if not is_number_below(item, len(left)) or item not in accepted(table, number) or left[item] == 0:
                return False
            left[item] -= 1
    return True


def coming_places(day):
    """Return the lot of the places at which requests come."""
    return tuple([at for at, (word, _) in enumerate(day) if word == "comes"])


def there_behind(day, serving):
    """Return the lot of the places of those who are there at the end of a day."""
    gone = {number: True for word, number in day if word == "leaves"}
    return tuple([at for at, kind in enumerate(serving) if kind is not None and at not in gone])


def row_there(day, serving):
    """Return the types of those who are there at the end of a day."""
    return tuple([day[at][1] for at in there_behind(day, serving)])


def left_on_day(stock, day, serving):
    """Return the stock that is left at the end of a day."""
    given = counts_of([serving[at] for at in there_behind(day, serving)], len(stock))
    return tuple([units - taken for units, taken in zip(stock, given)])
