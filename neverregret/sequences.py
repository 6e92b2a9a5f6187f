"""All sequences of some numbers that are unlike, ascending."""


def many_sequences(items, most):
    """Return how many unlike sequences of these items there are, or some greater number than most of them."""
    seen = {}
    many = 1
    for at, item in enumerate(items):
        seen[item] = seen.get(item, 0) + 1
        many = many * (at + 1) // seen[item]
        if many > most:
            break
    return many


def all_sequences(items):
    """Return the ascending list of all unlike sequences of these items."""
    found = []
    sequence = tuple(sorted(items))
    while sequence is not None:
        found.append(sequence)
        sequence = sequence_behind(sequence)
    return found


def sequence_behind(sequence):
    """Return the next greater sequence of the same items, `None` behind the greatest one."""
    at = len(sequence) - 2
    while at >= 0 and sequence[at] >= sequence[at + 1]:
        at -= 1
    if at < 0:
        return None
    other = len(sequence) - 1
    while sequence[other] <= sequence[at]:
        other -= 1
    turned = list(sequence)
    turned[at] = sequence[other]
    turned[other] = sequence[at]
    return tuple(turned[:at + 1] + turned[:at:-1])
