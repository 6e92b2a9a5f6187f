"""Days against which every rule has a regret, if there are no steps."""

from neverregret.games import first_left
from neverregret.leastkinds import lacking_taker, offered_kinds
from neverregret.plain import left_stock
from neverregret.returns import Split
from neverregret.stocks import units_in
from neverregret.tables import accepted


def next_event(table, stock, line, day, serving):
    """Return the event that comes next behind those that came so far and were served so, `None` behind a refusal."""
    if day and day[-1][0] == "comes" and serving[-1] is None:
        return None
    if isinstance(line, Split):
        return event_of_split(table, stock, line, day, serving)
    return "comes", type_of_crossing(table, stock, line, day, serving)


def event_of_split(table, stock, split, day, serving):
    """Return the event that comes next against a split.

    Requests of the returning type use up all that it accepts, those of the other type the rest that this one
    accepts. Then one leaves whose unit the other type does not accept, though another unit could come back.
    """
    first, second = split.types
    theirs = accepted(table, first)
    rest = [kind for kind in accepted(table, second) if kind not in theirs]
    many = units_in(stock, theirs)
    if len(day) < many:
        return "comes", first
    if len(day) == many + units_in(stock, rest):
        lost = [place for place, kind in enumerate(serving) if kind not in accepted(table, second)]
        return "leaves", lost[0]
    return "comes", second


def type_of_crossing(table, stock, crossing, day, serving):
    """Return the type of the request that comes next against a crossing.

    The first type comes as long as it gets least kinds, which the crossing ones are not. Behind another kind, a
    type comes that could use up all that it accepts, had the first type got a kind that it does not accept.
    """
    first = crossing.types[0]
    if not day:
        return first
    last = day[-1][1]
    if last != first:
        return last
    left = left_stock(stock, serving[:-1])
    taker = lacking_taker(table, serving[-1], offered_kinds(table, left, first))
    return first if taker is None else taker


def attacked_day(table, stock, line, orders):
    """Return the day that comes about against orders, and their serving."""
    day = ()
    serving = ()
    left = list(stock)
    event = next_event(table, stock, line, day, serving)
    while event is not None:
        word, number = event
        kind = None
        if word == "comes":
            kind = first_left(left, orders[number])
            if kind is not None:
                left[kind] -= 1
        elif serving[number] is not None:
            left[serving[number]] += 1
        day = day + (event,)
        serving = serving + (kind,)
        event = next_event(table, stock, line, day, serving)
    return day, serving
