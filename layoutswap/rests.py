"""Rests of polynomials by the F of a kind, and which layouts are like."""

from layoutswap.errors import Mismatch, NoNumber
from layoutswap.kinds import check_kind, difference
from layoutswap.names import is_integer
from layoutswap.polynomials import added, common_divisor, divided, multiplied, negated, text_of

# A period divides this number.
GREATEST_PERIOD = 120


def are_integers(thing):
    """Tell whether any object is a list or tuple of integers."""
    return isinstance(thing, (list, tuple)) and all([is_integer(factor) for factor in thing])


def factors_beside(rest, other):
    """Return the factors of another rest of the same kind, or of an integer; None for anything else."""
    if isinstance(other, Rest):
        if other.kind != rest.kind:
            raise Mismatch("rests of two kinds")
        return other.factors
    return (other,) if is_integer(other) else None


class Rest:
    """The rest of a polynomial by the F of a kind; nothing changes it."""

    def __init__(self, kind, factors):
        check_kind(kind)
        if not are_integers(factors):
            raise NoNumber("factors are a list or tuple of integers")
        self.kind = kind
        self.factors = divided(factors, difference(kind))[1]

    @classmethod
    def of(cls, kind, layout):
        """Return the rest of a layout."""
        return cls(kind, layout.factors)

    def order(self):
        """Return the least m from 1 on for which m times the rest is 0, or None."""
        whole = difference(self.kind)
        common = common_divisor(whole)
        times, left = divided(self.factors, [factor // common for factor in whole])
        if left != ():
            return None
        # F divides m times the rest just if its common divisor divides m times each of these factors.
        return common // common_divisor(times + (common,))

    def __add__(self, other):
        factors = factors_beside(self, other)
        if factors is None:
            return NotImplemented
        return Rest(self.kind, added(self.factors, factors))

    def __radd__(self, other):
        if not is_integer(other):
            return NotImplemented
        return self + other

    def __sub__(self, other):
        factors = factors_beside(self, other)
        if factors is None:
            return NotImplemented
        return Rest(self.kind, added(self.factors, negated(factors)))

    def __rsub__(self, other):
        if not is_integer(other):
            return NotImplemented
        return -self + other

    def __mul__(self, other):
        factors = factors_beside(self, other)
        if factors is None:
            return NotImplemented
        return Rest(self.kind, multiplied(self.factors, factors))

    def __rmul__(self, other):
        if not is_integer(other):
            return NotImplemented
        return self * other

    def __neg__(self):
        return Rest(self.kind, negated(self.factors))

    def __pow__(self, other):
        if not is_integer(other) or other < 0:
            return NotImplemented
        power = Rest(self.kind, (1,))
        for _ in range(other):
            power = power * self
        return power

    def __eq__(self, other):
        return isinstance(other, Rest) and self.kind == other.kind and self.factors == other.factors

    def __bool__(self):
        return bool(self.factors)

    def __str__(self):
        return str(text_of(self.factors))


def are_like(kind, one, other):
    """Tell whether steps lead from one layout to the other, however great the degrees on the way."""
    check_kind(kind)
    if one == other:
        return True
    if one.constant or other.constant:
        return False
    return Rest.of(kind, one) == Rest.of(kind, other)


def quotient(kind, one, other):
    """Return the factors of the polynomial S for which one less other is F times S, or None."""
    check_kind(kind)
    factors, left = divided(added(one.factors, negated(other.factors)), difference(kind))
    return factors if left == () else None


def period(kind):
    """Return the least d from 1 on for which t^(1 + d) and t are like, or None."""
    t = Rest(kind, (0, 1))
    power = t
    for d in range(1, GREATEST_PERIOD + 1):
        power = power * t
        if power == t:
            return d
    return None


def multiple(kind, one, other):
    """Return the least m from 1 on for which m times the one and m times the other are like, or None."""
    check_kind(kind)
    if one == other:
        return 1
    if one.constant or other.constant:
        return None
    return Rest(kind, added(one.factors, negated(other.factors))).order()
