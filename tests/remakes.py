"""What the tests of moves use: remakes found by trying, lots that block, and small cases."""

import random

from helpers import all_servings, random_tables
from neverregret.tables import Table, kinds_of_types


def all_remakes(table, stock, row, serving, places, costs):
    """Return all remakes with their costs, by trying all servings."""
    found = []
    for value in all_servings(table, stock, row):
        same = [(kind is not None) == (serving[at] is not None or at in places) for at, kind in enumerate(value)]
        kept = [kind == serving[at] for at, kind in enumerate(value) if serving[at] is not None and costs[at] is None]
        if all(same + kept):
            found.append((sum(costs[at] for at, kind in enumerate(value)
                              if serving[at] is not None and kind != serving[at]), value))
    return found


def does_lot_block(table, stock, row, serving, places, costs, types):
    """Return whether a lot of types blocks, word by word."""
    kinds = kinds_of_types(table, types)
    staying = [at for at, kind in enumerate(serving) if kind is not None and costs[at] is None]
    wanted = [at for at in range(len(row)) if (serving[at] is not None or at in places) and at not in staying]
    units = sum(stock[kind] for kind in kinds) - sum(serving[at] in kinds for at in staying)
    return sum(row[at] in types for at in wanted) > units


def cases(many, seed, costs=(None, 0, 1, 1, 2, 5)):
    """Return small tables with a stock, a row, a serving, places and costs each."""
    rng = random.Random(seed)
    found = []
    while len(found) < many:
        table = random_tables(1, rng.random(), 4, 4)[0]
        if table.types:
            stock = tuple(rng.choice((0, 1, 1, 2)) for _ in table.kinds)
            row = tuple(rng.randrange(len(table.types)) for _ in range(rng.randint(0, 5)))
            serving = rng.choice(all_servings(table, stock, row))
            refused = [at for at, kind in enumerate(serving) if kind is None]
            places = tuple(at for at in refused if rng.random() < 0.8)
            found.append((table, stock, row, serving, places, tuple(rng.choice(costs) for _ in row)))
    return found


def dear_cases(many, seed):
    """Return small cases in which a remake is there and each one costs something."""
    rng = random.Random(seed)
    found = []
    while len(found) < many:
        table = Table(("a", "b", "c"), tuple(zip("pqrs", [tuple(kind for kind in range(3) if rng.random() < 0.6)
                                                          for _ in range(4)])))
        stock = tuple(rng.choice((1, 1, 2)) for _ in range(3))
        row = tuple(rng.randrange(4) for _ in range(rng.randint(2, 5)))
        serving = rng.choice(all_servings(table, stock, row))
        places = tuple(at for at, kind in enumerate(serving) if kind is None)[:2]
        case = (table, stock, row, serving, places, tuple(rng.choice((None, 1, 2, 2, 5)) for _ in row))
        remakes = all_remakes(*case) if places else []
        if remakes and min(remakes)[0] > 0:
            found.append(case)
    return found
