"""What several tests use: small tables, values of other kinds, and meanings found by trying all servings."""

import itertools
import random

from neverregret.tables import Table


class Unfriendly:
    """An object that can be asked nothing: every question but the one for its class fails."""

    __hash__ = None

    def __getattribute__(self, name):
        if name == "__class__":
            return Unfriendly
        raise RuntimeError(name)

    def __eq__(self, other):
        raise RuntimeError("eq")

    def __ne__(self, other):
        raise RuntimeError("ne")

    def __lt__(self, other):
        raise RuntimeError("lt")

    def __le__(self, other):
        raise RuntimeError("le")

    def __gt__(self, other):
        raise RuntimeError("gt")

    def __ge__(self, other):
        raise RuntimeError("ge")

    def __bool__(self):
        raise RuntimeError("bool")

    def __len__(self):
        raise RuntimeError("len")

    def __iter__(self):
        raise RuntimeError("iter")

    def __getitem__(self, at):
        raise RuntimeError("getitem")

    def __contains__(self, item):
        raise RuntimeError("contains")

    def __index__(self):
        raise RuntimeError("index")

    def __repr__(self):
        raise RuntimeError("repr")


class Bag:
    """An object with attributes of any names."""

    def __init__(self, **more):
        self.__dict__.update(more)


SINGLES = (True, False, None, "", "a", "abc", "A b", b"", b"a", 1.0, 0.5, float("nan"), -1, -7, 10 ** 30, {}, {0: 1},
           [], [0], [0, 1], set(), {0}, frozenset(), object(), Unfriendly(), Bag(kinds=(0,), types=()), range(2), len,
           Table, 1j)


def odd_values():
    """Return values of all kinds, none of which is a tuple of numbers."""
    return SINGLES + tuple((item,) for item in SINGLES) + tuple((0, item) for item in SINGLES) + (
        ((),), ((), ()), (((),),), ("a", "b", "c", "d"), ((0, 0), (0,)), (Unfriendly(),) * 3)


def random_table(rng, most_kinds=3, most_types=3):
    """Return a small table; some kinds may have no takers, some types may accept nothing."""
    kinds = tuple("abcdefgh"[:rng.randint(1, most_kinds)])
    types = []
    for name in "pqrstuvwxyzo"[:rng.randint(0, most_types)]:
        types.append((name, tuple(kind for kind in range(len(kinds)) if rng.random() < 0.6)))
    return Table(kinds, tuple(sorted(types)))


def random_tables(many, seed, most_kinds=3, most_types=3):
    """Return many small tables, the same ones each time."""
    rng = random.Random(seed)
    return [random_table(rng, most_kinds, most_types) for _ in range(many)]


def all_tables(kinds, types):
    """Return all tables with so many kinds and types."""
    lots = [lot for size in range(kinds + 1) for lot in itertools.combinations(range(kinds), size)]
    names = tuple("abcdefgh"[:kinds])
    return [Table(names, tuple(zip("pqrstuvw", choice))) for choice in itertools.product(lots, repeat=types)]


def all_servings(table, stock, row):
    """Return all servings of a row."""
    found = []
    for serving in itertools.product(*[(None,) + table.types[request][1] for request in row]):
        if all(serving.count(kind) <= units for kind, units in enumerate(stock)):
            found.append(serving)
    return found


def served(serving):
    """Return how many requests a serving serves."""
    return len(serving) - serving.count(None)


def most(table, stock, row):
    """Return the greatest number of requests of a row that a serving serves, by trying all."""
    return max(served(serving) for serving in all_servings(table, stock, row))


def regrets_by_trying(table, stock, row, serving):
    """Return the places of a serving that are regrets, by trying all servings."""
    found = []
    for place, kind in enumerate(serving):
        if kind is None:
            part = [row[at] for at in range(place) if serving[at] is not None] + [row[place]]
            if most(table, stock, part) == len(part):
                found.append(place)
    return tuple(found)


def subsets(items):
    """Return all parts of a sequence, as tuples."""
    return [part for size in range(len(items) + 1) for part in itertools.combinations(items, size)]


def error_of(function, *values):
    """Return the name of the error that a call raises, with its attributes, or None."""
    try:
        function(*values)
    except ValueError as error:
        return (type(error).__name__,) + tuple(vars(error).values())
    return None


def meaning_of(table):
    """Return a function that returns `m(stock, row)` by trying what the first request can get, and remembers it."""
    known = {}

    def most_of(stock, row):
        key = (stock, tuple(sorted(row)))
        if not row:
            return 0
        if key not in known:
            first, rest = key[1][0], key[1][1:]
            numbers = [1 + most_of(without_unit(stock, kind), rest) for kind in table.types[first][1] if stock[kind]]
            known[key] = max(numbers + [most_of(stock, rest)])
        return known[key]

    return most_of


def without_unit(stock, kind):
    """Return the stock with one unit less of a kind."""
    return stock[:kind] + (stock[kind] - 1,) + stock[kind + 1:]


def rows_up_to(bounds, length):
    """Return all ascending rows within bounds with at most so many requests."""
    found = []
    for many in range(length + 1):
        for row in itertools.combinations_with_replacement(range(len(bounds)), many):
            if all(bound is None or row.count(request) <= bound for request, bound in enumerate(bounds)):
                found.append(row)
    return found


def cases_within(many, seed, kinds=3, types=3, units=(0, 1, 1, 2), limits=(None, 0, 1, 2), most_units=5):
    """Return small tables, with a stock and bounds each."""
    rng = random.Random(seed)
    found = []
    while len(found) < many:
        table = random_table(rng, kinds, types)
        stock = tuple(rng.choice(units) for _ in table.kinds)
        if sum(stock) <= most_units:
            found.append((table, stock, tuple(rng.choice(limits) for _ in table.types)))
    return found


def has_crossing(table):
    """Return whether two kinds of a table cross, word by word."""
    lots = [{at for at, (_, lot) in enumerate(table.types) if kind in lot} for kind in range(len(table.kinds))]
    return any(one & other and one - other and other - one for one, other in itertools.combinations(lots, 2))


def crossing_cases(many, seed, kinds=3, types=4):
    """Return small tables with crossing kinds, with a stock of few units and bounds that are seldom 0 each."""
    rng = random.Random(seed)
    found = []
    while len(found) < many:
        table = random_table(rng, kinds, types)
        stock = tuple(rng.choice((1, 1, 2)) for _ in table.kinds)
        if has_crossing(table) and sum(stock) <= 4:
            found.append((table, stock, tuple(rng.choice((None, None, 1, 2, 0)) for _ in table.types)))
    return found


def apart_by_trying(table, stock, one, other, row):
    """Return whether a row tells two kinds with units apart, by trying all servings."""
    most_of = meaning_of(table)
    return most_of(without_unit(stock, one), row) < most_of(without_unit(stock, other), row)


def safe_by_trying(table, stock, bounds):
    """Return all pairs of kinds with units of which the first is safe against the second, by trying all rows.

    Rows with as many requests as there are units, and one more, are tried too, though fewer are enough.
    """
    most_of = meaning_of(table)
    kinds = [kind for kind, units in enumerate(stock) if units]
    pairs = [(one, other) for one in kinds for other in kinds]
    for row in rows_up_to(bounds, sum(stock) + 1):
        numbers = {kind: most_of(without_unit(stock, kind), row) for kind in kinds}
        pairs = [(one, other) for one, other in pairs if numbers[one] >= numbers[other]]
    return tuple(pairs)


def large_case(rng, most_kinds=8, most_types=12):
    """Return a table, a stock with up to 400 units of each kind, and bounds up to 400."""
    table = random_table(rng, most_kinds, most_types)
    stock = tuple(rng.choice((0, 1, 7, 200, 399, 400)) for _ in table.kinds)
    return table, stock, tuple(rng.choice((None, 0, 1, 7, 200, 400)) for _ in table.types)


def is_same(one, other):
    """Return whether two values are equal and of the same kinds: True is not 1, a list is no tuple."""
    if isinstance(one, (tuple, list)):
        return type(one) is type(other) and len(one) == len(other) and all(map(is_same, one, other))
    return type(one) is type(other) and one == other
