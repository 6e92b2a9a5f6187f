"""What several tests use: small tables, values of other kinds, and meanings found by trying all servings."""

import itertools
import random

from neverregret.tables import Table


class Unfriendly:
    """An object that can be asked nothing: every question but the one for its class fails."""

    __hash__ = None

    def __getattribute__(self, name):
        if name == "__class__":
            return Unfriendly
        raise RuntimeError(name)

    def __eq__(self, other):
        raise RuntimeError("eq")

    def __ne__(self, other):
        raise RuntimeError("ne")

    def __lt__(self, other):
        raise RuntimeError("lt")

    def __le__(self, other):
        raise RuntimeError("le")

    def __gt__(self, other):
        raise RuntimeError("gt")

    def __ge__(self, other):
        raise RuntimeError("ge")

    def __bool__(self):
        raise RuntimeError("bool")

    def __len__(self):
        raise RuntimeError("len")

    def __iter__(self):
        raise RuntimeError("iter")

    def __getitem__(self, at):
        raise RuntimeError("getitem")

    def __contains__(self, item):
        raise RuntimeError("contains")

    def __index__(self):
        raise RuntimeError("index")

    def __repr__(self):
        raise RuntimeError("repr")


class Bag:
    """An object with attributes of any names."""

    def __init__(self, **more):
        self.__dict__.update(more)


SINGLES = (True, False, None, "", "a", "abc", "A b", b"", b"a", 1.0, 0.5, float("nan"), -1, -7, 10 ** 30, {}, {0: 1},
           [], [0], [0, 1], set(), {0}, frozenset(), object(), Unfriendly(), Bag(kinds=(0,), types=()), range(2), len,
           Table, 1j)


def odd_values():
    """Return values of all kinds, none of which is a tuple of numbers."""
    return SINGLES + tuple((item,) for item in SINGLES) + tuple((0, item) for item in SINGLES) + (
        ((),), ((), ()), (((),),), ("a", "b", "c", "d"), ((0, 0), (0,)), (Unfriendly(),) * 3)


def random_table(rng, most_kinds=3, most_types=3):
    """Return a small table; some kinds may have no takers, some types may accept nothing."""
    kinds = tuple("abcdefgh"[:rng.randint(1, most_kinds)])
    types = []
    for name in "pqrstuvwxyzo"[:rng.randint(0, most_types)]:
        types.append((name, tuple(kind for kind in range(len(kinds)) if rng.random() < 0.6)))
    return Table(kinds, tuple(sorted(types)))


def random_tables(many, seed, most_kinds=3, most_types=3):
    """Return many small tables, the same ones each time."""
    rng = random.Random(seed)
    return [random_table(rng, most_kinds, most_types) for _ in range(many)]


def all_tables(kinds, types):
    """Return all tables with so many kinds and types."""
    lots = [lot for size in range(kinds + 1) for lot in itertools.combinations(range(kinds), size)]
    names = tuple("abcdefgh"[:kinds])
    return [Table(names, tuple(zip("pqrstuvw", choice))) for choice in itertools.product(lots, repeat=types)]


def all_servings(table, stock, row):
    """Return all servings of a row."""
    found = []
    for serving in itertools.product(*[(None,) + table.types[request][1] for request in row]):
        if all(serving.count(kind) <= units for kind, units in enumerate(stock)):
            found.append(serving)
    return found


def served(serving):
    """Return how many requests a serving serves."""
    return len(serving) - serving.count(None)


def most(table, stock, row):
    """Return the greatest number of requests of a row that a serving serves, by trying all."""
    return max(served(serving) for serving in all_servings(table, stock, row))


def regrets_by_trying(table, stock, row, serving):
    """Return the places of a serving that are regrets, by trying all servings."""
    found = []
    for place, kind in enumerate(serving):
        if kind is None:
            part = [row[at] for at in range(place) if serving[at] is not None] + [row[place]]
            if most(table, stock, part) == len(part):
                found.append(place)
    return tuple(found)


def subsets(items):
    """Return all parts of a sequence, as tuples."""
    return [part for size in range(len(items) + 1) for part in itertools.combinations(items, size)]


def error_of(function, *values):
    """Return the name of the error that a call raises, with its attributes, or None."""
    try:
        function(*values)
    except ValueError as error:
        return (type(error).__name__,) + tuple(vars(error).values())
    return None
