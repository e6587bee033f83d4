"""Kinds of trees: what a kind is, its tags, and its polynomials P and F."""

from layoutswap.errors import NoKind
from layoutswap.names import is_integer, is_name

FEWEST_VARIANTS = 2
MOST_VARIANTS = 8
MOST_PARTS = 4


def is_variant(thing):
    """Tell whether any object is a variant of a kind: a tuple (tag, parts)."""
    if not isinstance(thing, tuple) or len(thing) != 2:
        return False
    tag, parts = thing
    return is_name(tag) and is_integer(parts) and 0 <= parts <= MOST_PARTS


def is_kind(thing):
    """Tell whether any object is a kind."""
    if not isinstance(thing, tuple) or not FEWEST_VARIANTS <= len(thing) <= MOST_VARIANTS:
        return False
    if not all([is_variant(variant) for variant in thing]):
        return False
    # Only now: what is no variant may not be fit for a set, or for a comparison by order.
    if len(set(tags_of(thing))) < len(thing):
        return False
    numbers = [parts for _, parts in thing]
    return 0 in numbers and any([parts >= 2 for parts in numbers])


def check_kind(thing):
    """Raise NoKind if any object is no kind."""
    if not is_kind(thing):
        raise NoKind("this is no kind")


def tags_of(kind):
    """Return the list of the tags of a kind, in order."""
    return [tag for tag, _ in kind]


def parts_of(kind, tag):
    """Return the number of parts of a tag, any string, or None if the kind does not have it."""
    return dict(kind).get(tag)


def polynomial(kind):
    """Return the factors of P, from t^0 on: how many variants have 0 parts, 1 part, and so on."""
    numbers = [parts for _, parts in kind]
    factors = [numbers.count(k) for k in range(MOST_PARTS + 1)]
    while factors[-1] == 0:
        factors.pop()
    return tuple(factors)


def difference(kind):
    """Return the factors of F, which is P less t, from t^0 on."""
    factors = polynomial(kind)
    # P has at least the degree 2, so taking t away leaves the last factor as it is.
    return factors[:1] + (factors[1] - 1,) + factors[2:]
