"""What a number, a name and a lot are, for any values, and the limits of what is passed."""

MOST_KINDS = 8
MOST_TYPES = 12
MOST_UNITS = 400
MOST_REQUESTS = 400
MOST_LETTERS = 8


def is_number(value):
    """Return whether any value is an integer from 0 on."""
    return isinstance(value, int) and not isinstance(value, bool) and value >= 0


def is_number_below(value, limit):
    """Return whether any value is a number below a limit."""
    return is_number(value) and value < limit


def is_place_or_none(value, limit):
    """Return whether any value is a number below a limit, or -1."""
    return isinstance(value, int) and not isinstance(value, bool) and -1 <= value < limit


def is_name(value):
    """Return whether any value is a string of 1 to 8 lower-case letters."""
    if not isinstance(value, str) or not 1 <= len(value) <= MOST_LETTERS:
        return False
    return all(["a" <= sign <= "z" for sign in value])


def is_tuple_of(value, length):
    """Return whether any value is a tuple of so many items."""
    return isinstance(value, tuple) and len(value) == length


def is_ascending(items):
    """Return whether items that can be compared ascend without duplicates."""
    return all([items[at] < items[at + 1] for at in range(len(items) - 1)])


def are_numbers_below(value, limit):
    """Return whether any value is a tuple of numbers below a limit."""
    return isinstance(value, tuple) and all([is_number_below(item, limit) for item in value])


def are_numbers(value, length):
    """Return whether any value is a tuple of so many numbers."""
    return is_tuple_of(value, length) and all([is_number(item) for item in value])


def is_lot_below(value, limit):
    """Return whether any value is a lot of numbers below a limit."""
    return are_numbers_below(value, limit) and is_ascending(value)


def are_unlike_names(value, length):
    """Return whether any value is a tuple of so many names, each another one."""
    if not is_tuple_of(value, length) or not all([is_name(item) for item in value]):
        return False
    return len(set(value)) == length


def is_lot_of_names(value):
    """Return whether any value is a lot of names."""
    return isinstance(value, tuple) and all([is_name(item) for item in value]) and is_ascending(value)


def counts_of(items, length):
    """Return how often each number below a length stands among items, of which `None` counts nowhere."""
    counts = [0] * length
    for item in items:
        if item is not None:
            counts[item] += 1
    return tuple(counts)


def all_lots(many):
    """Return all lots of numbers below a number, ascending."""
    lots = [()]
    for number in range(many):
        lots = lots + [lot + (number,) for lot in lots]
    return tuple(sorted(lots))


def numbered_anew(length, left_out):
    """Return a dict with the new number of each number below a length that is not left out."""
    kept = [number for number in range(length) if number not in left_out]
    return {old: new for new, old in enumerate(kept)}


def changed_at(numbers, at, by):
    """Return a tuple of numbers in which one is changed by a number."""
    return numbers[:at] + (numbers[at] + by,) + numbers[at + 1:]


def first_false(flags):
    """Return the index of the first item of a list that is False, or `None`."""
    return flags.index(False) if False in flags else None
