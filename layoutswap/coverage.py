"""Whether just one of some rows holds for each record of a layout."""

from layoutswap.meets import are_apart
from layoutswap.patterns import count_tags


def power(base, exponent):
    """Return a power of an integer."""
    worth = 1
    for _ in range(exponent):
        worth = worth * base
    return worth


def hold_once(kind, layout, some):
    """Tell whether just one of some rows holds for each record of a layout, where all their places are.

    A pattern has its share of all trees: each tag in it takes one of as many equal
    shares as there are variants. Rows of which no two meet hold for all records just
    if their shares add up to the whole, which is one for each place.
    """
    if not are_apart(some):
        return False
    tags = [count_tags(row[3]) for row in some]
    most = max([int(many) for many in tags], default=0)
    whole = power(len(kind), most)
    shares = [0 for _ in layout.factors]
    for row, many in zip(some, tags):
        shares[row[0]] = shares[row[0]] + (row[2] - row[1] + 1) * power(len(kind), most - many)
    return shares == [factor * whole for factor in layout.factors]
