"""Steps from one layout to another one, found as point 11 of the document tells."""

from layoutswap.errors import NotLike, TooMany
from layoutswap.kinds import check_kind, difference, polynomial
from layoutswap.migrations import Migration
from layoutswap.rests import Rest, quotient
from layoutswap.steps import changed

MOST_DEGREE = 7
GREATEST_FACTOR = 100
# More single steps are not tried before many places at once are made ready.
MOST_TRIED = 40


def check_bounds(kind, layouts):
    """Raise NoKind, then TooMany, if steps are not looked for with such a kind or such layouts."""
    check_kind(kind)
    if any([layout.degree > MOST_DEGREE for layout in layouts]):
        raise TooMany(MOST_DEGREE)
    if any([factor > GREATEST_FACTOR for layout in layouts for factor in layout.factors]):
        raise TooMany(GREATEST_FACTOR)


def adding(kind, j, n):
    """Return the opens that add n times E * t^(j - 1) to a layout with n places with j trees."""
    steps = [("open", j, n)]
    if polynomial(kind)[1] == 0:
        degree = len(difference(kind)) - 1
        steps.extend([("open", k, n) for k in reversed(range(j + 1, j + degree))])
    return steps


def degree_of_adding(kind):
    """Return the degree of E."""
    degree = len(difference(kind)) - 1
    return degree if polynomial(kind)[1] > 0 else 2 * degree - 1


def making(kind, j, many):
    """Return opens by which a place with j trees becomes so many of them, or more, and some others."""
    steps = []
    top = j - 1 + degree_of_adding(kind)
    there = 1
    while there < many:
        steps.extend(adding(kind, j, there))
        # From what was added as many again come down from the top, one number of trees after the other.
        steps.extend([("open", k, there) for k in reversed(range(j + 1, top + 1))])
        there = 2 * there
    return steps


def undoing(steps):
    """Return the closes that undo opens."""
    return [("close", k, n) for _, k, n in steps[::-1]]


def levels_up(kind, k, top):
    """Return the numbers of trees, from k on, through which opens lead up to top or more."""
    levels = [k]
    while levels[-1] < top:
        levels.append(levels[-1] + len(difference(kind)) - 2)
    return levels


def enlarging(kind, layout, amounts):
    """Return the steps that add, for each k, amounts[k] times E * t^k to a layout that is not constant."""
    levels = levels_up(kind, layout.degree, len(amounts))
    most = max([int(amount) for amount in amounts])
    made = making(kind, layout.degree, most) + [("open", k, most) for k in levels[:-1]]
    steps = list(made)
    # On the way down each number of trees is passed once; what is added there stays.
    for k in reversed(range(1, levels[-1] + 1)):
        if k <= len(amounts) and amounts[k - 1] > 0:
            steps.extend(adding(kind, k, amounts[k - 1]))
        if k > 1:
            steps.append(("open", k, most))
            made.append(("open", k, most))
    return steps + undoing(made)


def places_needed(kind, wanted):
    """Return, for each number of trees, so many places that all opens can be done, and all closes behind them."""
    terms = polynomial(kind)
    needed = [0 for _ in range(len(wanted) + len(terms))]
    for k, times in enumerate(wanted):
        if times > 0:
            needed[k + 1] = needed[k + 1] + times
        else:
            for parts, many in enumerate(terms):
                needed[k + parts] = needed[k + parts] - times * many
    while needed[-1] == 0:
        needed.pop()
    return needed


def exchanging(wanted):
    """Return the opens, then the closes, that add F times a polynomial."""
    opens = [("open", k + 1, times) for k, times in enumerate(wanted) if times > 0]
    closes = [("close", k + 1, -times) for k, times in enumerate(wanted) if times < 0]
    return opens + closes


def possible(kind, layout, k, times):
    """Return how many of so many opens at k, or below 0 of closes, can be done at once, as a number of this sign."""
    if times >= 0:
        return min(int(layout[k]), times)
    terms = [(parts, many) for parts, many in enumerate(polynomial(kind)) if many > 0]
    most = min([int(layout[k - 1 + parts] // many) for parts, many in terms])
    return -min(int(most), -times)


def trying(kind, layout, wanted):
    """Return opens and closes that add F times a polynomial, done as far as there are places; None if that fails."""
    steps = []
    left = list(wanted)
    going = True
    while going and len(steps) <= MOST_TRIED:
        going = False
        for k in range(len(left)):
            n = possible(kind, layout, k + 1, left[k])
            if n != 0:
                step = ("open", k + 1, n) if n > 0 else ("close", k + 1, -n)
                steps.append(step)
                layout = changed(kind, layout, step)
                left[k] = left[k] - n
                going = True
    return None if any(left) else steps


def finding(kind, one, other, wanted):
    """Return steps that lead from one layout to the other, which is more by F times a polynomial."""
    tried = trying(kind, one, wanted)
    if tried is not None:
        return tried
    # A place of E * t^k for each place with k trees that is needed: the factor of t^0 in E is not 0.
    amounts = places_needed(kind, wanted)
    ahead = enlarging(kind, one, amounts)
    behind = enlarging(kind, other, amounts)
    back = [("close" if word == "open" else "open", k, n) for word, k, n in behind[::-1]]
    return ahead + exchanging(wanted) + back


def led(kind, one, other):
    """Return ("like", steps from one layout to the other), or why there are none."""
    check_bounds(kind, (one, other))
    if one == other:
        return ("like", ())
    if one.constant or other.constant:
        return ("constant",)
    wanted = quotient(kind, other, one)
    if wanted is None:
        return ("rests", Rest.of(kind, one).factors, Rest.of(kind, other).factors)
    return ("like", tuple(finding(kind, one, other, wanted)))


def migration_to(kind, one, other):
    """Return the migration by such steps."""
    answer = led(kind, one, other)
    if answer[0] != "like":
        raise NotLike(answer)
    return Migration(kind, one, answer[1])
