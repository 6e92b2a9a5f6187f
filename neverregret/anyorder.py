"""The rule in every order of the requests of a row."""

from neverregret.court import court, is_forest
from neverregret.crossing import crossing_day, regretted_row
from neverregret.errors import Refused
from neverregret.rule import fewest_takers, served_by_rule
from neverregret.sequences import all_sequences, many_sequences

MOST_SEQUENCES = 2000


def row_orders(row):
    """Return the lot of all sequences of the requests of a row."""
    if many_sequences(row, MOST_SEQUENCES) > MOST_SEQUENCES:
        raise Refused("size")
    return tuple(all_sequences(row))


def served_in_orders(table, stock, row):
    """Return the lot of the numbers of requests that the rule serves in all sequences of a row."""
    numbers = []
    for sequence in row_orders(row):
        numbers.append(len(row) - served_by_rule(table, stock, sequence).count(None))
    return tuple(sorted(set(numbers)))


def unlike_orders(table):
    """Return `None` if no kinds cross, otherwise a stock, a row, and this row turned, which the rule serves better."""
    if is_forest(table):
        return None
    crossing = court(table)
    stock, _ = crossing_day(table, crossing)
    row = regretted_row(crossing, fewest_takers(table, stock, crossing.types[0]))
    return stock, row, row[::-1]
