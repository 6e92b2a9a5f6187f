"""Regrets and lapses on days, and who is served by those who never have any.

Servings of a day are tried one event after another. A trial is a pair of tuples: the kinds given to those who
were served so far, by their places, and the stock left now.
"""

from neverregret.basics import changed_at
from neverregret.days import coming_places, left_on_day
from neverregret.errors import Refused
from neverregret.flows import go_way, nothing_taken, way_to_unit
from neverregret.tables import accepted

MOST_CHOICES = 5000


def check_choices(table, requests):
    """Raise `Refused("size")` if there are too many choices for requests of these types."""
    choices = 1
    for request in requests:
        choices *= len(accepted(table, request)) + 1
    if choices > MOST_CHOICES:
        raise Refused("size")


def check_all_choices(table, day):
    """Raise `Refused("size")` if there are too many choices for all requests that come on a day."""
    check_choices(table, [day[place][1] for place in coming_places(day)])


def trials_served(table, trials, request):
    """Return the trials behind a request, by those before it, if it is served."""
    behind = []
    for kind in accepted(table, request):
        for given, left in trials:
            if left[kind] > 0:
                behind.append((given + (kind,), changed_at(left, kind, -1)))
    return behind


def trials_left(trials, index):
    """Return the trials behind a leaving of the one who was served at this index."""
    return [(given, put_back(left, given[index])) for given, left in trials]


def put_back(left, kind):
    """Return the stock with the unit of a kind that comes back; with `None` as it is."""
    return left if kind is None else changed_at(left, kind, 1)


def behind_event(table, trials, served, event):
    """Return the trials behind an event in which a request that comes is served; `served` are places so far."""
    word, number = event
    if word == "comes":
        return trials_served(table, trials, number)
    if number in served:
        return trials_left(trials, served.index(number))
    return trials


def trials_of_places(table, stock, day, places):
    """Return all trials of a day that serve the requests of a lot of places, and no others."""
    trials = [((), stock)]
    served = []
    chosen = {place: True for place in places}
    for at, event in enumerate(day):
        if event[0] == "leaves" or at in chosen:
            trials = behind_event(table, trials, served, event)
            if event[0] == "comes":
                served.append(at)
    return trials


def are_servable_stays(table, stock, day, places):
    """Return whether some serving of a day serves the requests of a lot of places, and no others."""
    check_choices(table, [day[place][1] for place in places])
    return len(trials_of_places(table, stock, day, places)) > 0


def day_regrets(table, stock, day, serving):
    """Return the lot of the places of a serving that are regrets."""
    check_all_choices(table, day)
    trials = [((), stock)]
    served = []
    found = []
    for at, event in enumerate(day):
        behind = behind_event(table, trials, served, event)
        if event[0] == "leaves":
            trials = behind
        elif serving[at] is not None:
            trials = behind
            served.append(at)
        elif behind:
            found.append(at)
    return tuple(found)


def kept_stays(table, stock, day):
    """Return the lot of the places that all servings without regrets serve."""
    check_all_choices(table, day)
    trials = [((), stock)]
    served = []
    for at, event in enumerate(day):
        behind = behind_event(table, trials, served, event)
        if event[0] == "leaves":
            trials = behind
        elif behind:
            trials = behind
            served.append(at)
    return tuple(served)


def calm_serving(table, stock, day):
    """Return some serving of a day without regrets."""
    places = kept_stays(table, stock, day)
    given = trials_of_places(table, stock, day, places)[0][0]
    serving = [None] * len(day)
    for place, kind in zip(places, given):
        serving[place] = kind
    return tuple(serving)


def day_lapses(table, stock, day, serving):
    """Return the lot of the places of a serving that are lapses."""
    taken = nothing_taken(table)
    left = list(stock)
    found = []
    for at, (word, number) in enumerate(day):
        if word == "comes" and serving[at] is None:
            if way_to_unit(table, taken, left, number) is not None:
                found.append(at)
        elif word == "comes":
            go_way(taken, left, [(number, serving[at])], 1)
        elif serving[number] is not None:
            go_way(taken, left, [(day[number][1], serving[number])], -1)
    return tuple(found)


def places_with_moves(table, stock, day):
    """Return the lot of the places served by whoever moves all at will, and refuses nothing that fits so."""
    taken = nothing_taken(table)
    left = list(stock)
    served = []
    for at, (word, number) in enumerate(day):
        if word == "comes":
            way = way_to_unit(table, taken, left, number)
            if way is not None:
                go_way(taken, left, way, 1)
                served.append(at)
        elif number in served:
            request = day[number][1]
            # all of one type are alike, so that any unit of the type can be the one that comes back
            kind = [kind for kind, units in enumerate(taken[request]) if units > 0][0]
            go_way(taken, left, [(request, kind)], -1)
    return tuple(served)


def most_behind(table, stock, day, begun):
    """Return the greatest number of requests of a day that a serving that begins so serves."""
    first = len(begun)
    check_choices(table, [day[place][1] for place in coming_places(day) if place >= first])
    trials = [((), left_on_day(stock, day[:first], begun))]
    tried = []
    for at in range(first, len(day)):
        word, number = day[at]
        if word == "leaves":
            trials = trials_behind_leaving(trials, tried, number, begun)
        elif accepted(table, number):
            refused = [(given + (None,), left) for given, left in trials]
            trials = trials_served(table, trials, number) + refused
            tried.append(at)
    before = first - begun.count(None)
    return before + max([len(given) - given.count(None) for given, _ in trials])


def trials_behind_leaving(trials, tried, place, begun):
    """Return the trials behind the leaving of the one who came at a place, in the beginning or tried."""
    if place in tried:
        return trials_left(trials, tried.index(place))
    if place < len(begun) and begun[place] is not None:
        return [(given, changed_at(left, begun[place], 1)) for given, left in trials]
    return trials
