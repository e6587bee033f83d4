"""The fewest one steps between layouts within bounds, and papers that show how many there are."""

from layoutswap.errors import Mismatch, NoNumber
from layoutswap.kinds import check_kind
from layoutswap.layouts import Layout, are_factors
from layoutswap.names import is_integer
from layoutswap.steps import changed, is_step

MOST_PLACES = 6
GREATEST_DEGREE = 8


def is_up_to(most, thing):
    """Tell whether any object is an integer from 0 to a greatest one."""
    return is_integer(thing) and 0 <= thing <= most


def are_within(factors, places, degree):
    """Tell whether the factors of a layout, the last one not 0, are within the bounds."""
    return len(factors) - 1 <= degree and sum(factors) <= places


def check_bounds(kind, one, other, places, degree):
    """Raise NoKind, NoNumber or Mismatch if there is no distance within such bounds to be asked for."""
    check_kind(kind)
    if not is_up_to(MOST_PLACES, places) or not is_up_to(GREATEST_DEGREE, degree):
        raise NoNumber("bounds are integers from 0 to 6 and from 0 to 8")
    if not are_within(one.factors, places, degree) or not are_within(other.factors, places, degree):
        raise Mismatch("a layout is not within the bounds")


def neighbours(kind, factors, places, degree):
    """Return the list of the factors of the layouts within the bounds to which a one step leads from one."""
    layout = Layout(factors)
    steps = [(word, k, 1) for k in range(1, len(factors) + 1) for word in ("open", "close")]
    behind = [changed(kind, layout, step).factors for step in steps if is_step(kind, layout, step)]
    return [found for found in behind if are_within(found, places, degree)]


def reached(kind, one, other, places, degree):
    """Return the dict from the layouts that are reached from one, as factors, to those ahead of them on a shortest way.

    The layouts stand in the order of their distance. They are told up to the other one, if it is reached.
    """
    ahead = {one.factors: None}
    layer = [one.factors]
    while layer and other.factors not in ahead:
        further = []
        for factors in layer:
            for found in neighbours(kind, factors, places, degree):
                if found not in ahead:
                    ahead[found] = factors
                    further.append(found)
        layer = further
    return ahead


def way_to(ahead, factors):
    """Return the list of the factors of the layouts on the way to one that is reached."""
    way = []
    while factors is not None:
        way.append(factors)
        factors = ahead[factors]
    return way[::-1]


def distance(kind, one, other, places, degree):
    """Return the least number of one steps from one layout to the other within the bounds, or None."""
    way = shortest(kind, one, other, places, degree)
    return None if way is None else len(way) - 1


def shortest(kind, one, other, places, degree):
    """Return the list of the layouts on a shortest way, or None."""
    check_bounds(kind, one, other, places, degree)
    ahead = reached(kind, one, other, places, degree)
    if other.factors not in ahead:
        return None
    return [Layout(factors) for factors in way_to(ahead, other.factors)]


def price_paper(kind, one, other, places, degree):
    """Return a price paper for the distance, or None if there is none."""
    check_bounds(kind, one, other, places, degree)
    ahead = reached(kind, one, other, places, degree)
    if other.factors not in ahead:
        return None
    prices = {}
    for factors, before in ahead.items():
        prices[factors] = 0 if before is None else prices[before] + 1
    return prices


def closed_paper(kind, one, other, places, degree):
    """Return a closed paper, or None if there is a distance."""
    check_bounds(kind, one, other, places, degree)
    ahead = reached(kind, one, other, places, degree)
    return None if other.factors in ahead else list(ahead)


def is_place(places, degree, thing):
    """Tell whether any object is the tuple of the factors, the last one not 0, of a layout within the bounds."""
    if not isinstance(thing, tuple) or not are_factors(thing) or thing[-1:] == (0,):
        return False
    return are_within(thing, places, degree)


def are_prices(places, degree, thing):
    """Tell whether any object is a dict from layouts within the bounds to integers from 0 on."""
    if not isinstance(thing, dict):
        return False
    return all([is_place(places, degree, key) and is_integer(price) and price >= 0 for key, price in thing.items()])


def shows_distance(kind, one, other, places, degree, number, thing):
    """Tell whether any object is a price paper for a number."""
    check_bounds(kind, one, other, places, degree)
    if not are_prices(places, degree, thing) or thing.get(one.factors) != 0:
        return False
    if other.factors in thing and thing[other.factors] < number:
        return False
    for factors, price in thing.items():
        if price < number - 1:
            for found in neighbours(kind, factors, places, degree):
                if found not in thing or thing[found] > price + 1:
                    return False
    return True


def shows_apart(kind, one, other, places, degree, thing):
    """Tell whether any object is a closed paper."""
    check_bounds(kind, one, other, places, degree)
    if not isinstance(thing, list) or not all([is_place(places, degree, place) for place in thing]):
        return False
    told = {place: True for place in thing}
    if len(told) < len(thing) or one.factors not in told or other.factors in told:
        return False
    for factors in thing:
        for found in neighbours(kind, factors, places, degree):
            if found not in told:
                return False
    return True
