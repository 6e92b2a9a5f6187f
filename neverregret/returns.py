"""Steps along which no rule regrets while requests come and leave, or what shows that there are none.

Only kinds with units in stock count here.
"""

from neverregret.basics import are_numbers_below, is_lot_below, is_tuple_of
from neverregret.court import Crossing, crossing_fault, shared_takers
from neverregret.leastkinds import offered_kinds
from neverregret.tables import accepted, takers


class Steps:
    """For each type the kinds that it accepts, in lots of equal takers, those with fewer takers first."""

    def __init__(self, lots):
        self.lots = lots


class Split:
    """Kinds `(k, l)` and types `(t, u)`: `t` returns and accepts both kinds, `u` accepts `l` and not `k`."""

    def __init__(self, kinds, types):
        self.kinds = kinds
        self.types = types


def line_of(table, stock, returning):
    """Return the steps, or else some split or crossing."""
    for request in range(len(table.types)):
        kinds = offered_kinds(table, stock, request)
        for at, one in enumerate(kinds):
            for other in kinds[at + 1:]:
                found = split_or_crossing(table, returning, request, one, other)
                if found is not None:
                    return found
    return Steps(tuple([lots_by_takers(table, offered_kinds(table, stock, request))
                        for request in range(len(table.types))]))


def split_or_crossing(table, returning, request, one, other):
    """Return a split or a crossing of two kinds that a type accepts, `None` if they fit in steps of it."""
    _, first, second = shared_takers(table, one, other)
    if first and second:
        return Crossing((one, other), (request, first[0], second[0]))
    if request in returning and first:
        return Split((other, one), (request, first[0]))
    if request in returning and second:
        return Split((one, other), (request, second[0]))
    return None


def lots_by_takers(table, kinds):
    """Return the kinds in lots of equal takers, those with fewer takers first."""
    lots = {}
    for kind in sorted(kinds, key=lambda kind: len(takers(table, kind))):
        together = takers(table, kind)
        lots[together] = lots.get(together, ()) + (kind,)
    return tuple([lots[together] for together in lots])


def is_line(table, stock, returning, value):
    """Return whether any value is right steps, a right split or a right crossing."""
    if isinstance(value, Steps):
        return is_right_steps(table, stock, returning, value)
    if isinstance(value, Split):
        return is_right_split(table, stock, returning, value)
    if not isinstance(value, Crossing) or crossing_fault(table, value) is not None:
        return False
    return all([stock[kind] > 0 for kind in value.kinds])


def is_right_steps(table, stock, returning, steps):
    """Return whether steps, of any attributes, are right."""
    if not is_tuple_of(steps.lots, len(table.types)):
        return False
    for lots in steps.lots:
        # True would equal a kind that it is not
        if not isinstance(lots, tuple) or not all([is_lot_below(lot, len(stock)) for lot in lots]):
            return False
    line = line_of(table, stock, returning)
    return isinstance(line, Steps) and steps.lots == line.lots


def is_right_split(table, stock, returning, split):
    """Return whether a split, of any attributes, is right."""
    if not are_numbers_below(split.kinds, len(stock)) or len(split.kinds) != 2:
        return False
    if not are_numbers_below(split.types, len(table.types)) or len(split.types) != 2:
        return False
    (one, other), (first, second) = split.kinds, split.types
    offered = offered_kinds(table, stock, first)
    if first not in returning or one not in offered or other not in offered:
        return False
    return other in accepted(table, second) and one not in accepted(table, second)


def lot_by_steps(steps, left, request):
    """Return the kinds with units left of the first lot of a type that has any, `()` if none has."""
    for lot in steps.lots[request]:
        kinds = tuple([kind for kind in lot if left[kind] > 0])
        if kinds:
            return kinds
    return ()


def kind_by_steps(steps, left, request):
    """Return the least kind that who follows the steps gives to a request, or `None`."""
    kinds = lot_by_steps(steps, left, request)
    return kinds[0] if kinds else None


def served_by_steps(stock, steps, day):
    """Return the serving of a day that gives each request the least kind by the steps."""
    left = list(stock)
    serving = []
    for word, number in day:
        kind = None
        if word == "comes":
            kind = kind_by_steps(steps, left, number)
            if kind is not None:
                left[kind] -= 1
        elif serving[number] is not None:
            left[serving[number]] += 1
        serving.append(kind)
    return tuple(serving)


def follows_steps(stock, steps, day, serving):
    """Return whether a serving of a day follows the steps."""
    left = list(stock)
    for (word, number), kind in zip(day, serving):
        if word == "comes":
            kinds = lot_by_steps(steps, left, number)
            if kind not in kinds and (kinds or kind is not None):
                return False
            if kind is not None:
                left[kind] -= 1
        elif serving[number] is not None:
            left[serving[number]] += 1
    return True
