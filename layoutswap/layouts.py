"""Layouts: how many places there are for records with no tree, with one tree, two trees, and so on."""

from layoutswap.errors import NoLayout, TooMany
from layoutswap.names import is_integer
from layoutswap.polynomials import added, multiplied, text_of, trimmed

MOST_DEGREE = 40


def are_factors(thing):
    """Tell whether any object is a list or tuple of integers from 0 on."""
    if not isinstance(thing, (list, tuple)):
        return False
    return all([is_integer(factor) and factor >= 0 for factor in thing])


def is_from_zero(thing):
    """Tell whether any object is an integer from 0 on."""
    return is_integer(thing) and thing >= 0


def factors_beside(thing):
    """Return the factors of a layout, or of an integer from 0 on as one; None for anything else."""
    if isinstance(thing, Layout):
        return thing.factors
    return (thing,) if is_from_zero(thing) else None


def place_in_order(layout):
    """Return what layouts are ordered by: the degree, then the factors, the one of the greatest k first."""
    return (layout.degree, layout.factors[::-1])


class Layout:
    """A layout; nothing changes it."""

    def __init__(self, factors):
        if not are_factors(factors):
            raise NoLayout("factors are a list or tuple of integers from 0 on")
        self.factors = trimmed(factors)
        self.degree = len(self.factors) - 1
        if self.degree > MOST_DEGREE:
            raise TooMany(MOST_DEGREE)

    @property
    def total(self):
        """The number of all places."""
        return sum(self.factors)

    @property
    def constant(self):
        """Whether there are no places but those without trees."""
        return self.degree < 1

    @staticmethod
    def trees(k):
        """Return the layout of one place with k trees."""
        return Layout([0] * k + [1])

    @staticmethod
    def number(n):
        """Return the layout of n places without trees."""
        return Layout((n,))

    # The first one stands alone because a method needs a plain first parameter; 0 is the sum of none.
    @staticmethod
    def joined(first=0, *layouts):
        """Return the sum of any number of layouts."""
        total = Layout(()) + first
        for layout in layouts:
            total = total + layout
        return total

    def __add__(self, other):
        factors = factors_beside(other)
        if factors is None:
            return NotImplemented
        return Layout(added(self.factors, factors))

    def __radd__(self, other):
        if not is_from_zero(other):
            return NotImplemented
        return self + other

    def __mul__(self, other):
        factors = factors_beside(other)
        if factors is None:
            return NotImplemented
        return Layout(multiplied(self.factors, factors))

    def __rmul__(self, other):
        if not is_from_zero(other):
            return NotImplemented
        return self * other

    def __pow__(self, other):
        if not is_from_zero(other):
            return NotImplemented
        power = Layout((1,))
        for _ in range(other):
            power = power * self
        return power

    def __lshift__(self, other):
        if not is_from_zero(other):
            return NotImplemented
        return Layout([0] * other + list(self.factors))

    def __eq__(self, other):
        return isinstance(other, Layout) and self.factors == other.factors

    def __lt__(self, other):
        if not isinstance(other, Layout):
            return NotImplemented
        return place_in_order(self) < place_in_order(other)

    def __le__(self, other):
        if not isinstance(other, Layout):
            return NotImplemented
        return place_in_order(self) <= place_in_order(other)

    def __gt__(self, other):
        if not isinstance(other, Layout):
            return NotImplemented
        return place_in_order(self) > place_in_order(other)

    def __ge__(self, other):
        if not isinstance(other, Layout):
            return NotImplemented
        return place_in_order(self) >= place_in_order(other)

    def __getitem__(self, at):
        return self.factors[at] if 0 <= at <= self.degree else 0

    def __iter__(self):
        # There is a factor for each integer, so going through them would never end.
        raise TypeError("a layout is not gone through")

    def __contains__(self, x):
        return self[x] != 0

    def __len__(self):
        return len([factor for factor in self.factors if factor != 0])

    def __bool__(self):
        return bool(self.factors)

    def __call__(self, n):
        """Return the value at an integer."""
        value = 0
        for factor in self.factors[::-1]:
            value = value * n + factor
        return value

    def __str__(self):
        return str(text_of(self.factors))
