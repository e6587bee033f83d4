"""Lists in the order of keys."""


def merged(one, other):
    """Return the (key, thing) pairs of two lists, each of them ascending by its keys, as one such list."""
    found = []
    at = 0
    for pair in one:
        while at < len(other) and other[at][0] < pair[0]:
            found.append(other[at])
            at += 1
        found.append(pair)
    return found + other[at:]


def in_order(pairs):
    """Return the list of the things of some (key, thing) pairs, ascending by their keys.

    The keys are integers, or tuples of integers. The things are not compared.
    """
    parts = [[pair] for pair in pairs]
    while len(parts) > 1:
        halves = [merged(parts[at], parts[at + 1]) for at in range(0, len(parts) - 1, 2)]
        parts = halves + parts[2 * len(halves):]
    return [thing for part in parts for _, thing in part]
