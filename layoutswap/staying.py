"""The records that stay at a migration: how many there are of a size, and the first one."""

from layoutswap.equations import Equations, Parts
from layoutswap.errors import Mismatch, TooMany
from layoutswap.forests import counts_by_size
from layoutswap.ordering import in_order
from layoutswap.patterns import holes_of
from layoutswap.records import order_of_record
from layoutswap.rows import rows
from layoutswap.trees import numbered_tree

MOST_TAGS = 400


def solved(row):
    """Return the solution (equations, roots, order) for the records that stay by a row, None if there are none.

    Order has the leaders of all parts, each ahead of its own parts; those without a tag may be any trees.
    """
    k, low, _, patterns, degree, first, images = row
    if k != degree or low != first:
        return None
    parts = Parts(len(holes_of(patterns)))
    numbers = parts.numbers_of(patterns)
    pairs = list(zip(numbers, parts.numbers_of(images)))
    equations = Equations(parts)
    if not equations.solve(pairs):
        return None
    roots = [equations.leader(number) for number in numbers]
    order = equations.ahead_of_parts(roots)
    return None if order is None else (equations, roots, order)


def rows_with_staying(migration):
    """Return the list of (row, solution) for all rows of a migration by which records stay."""
    if migration.source != migration.target:
        raise Mismatch("source and target are different")
    found = [(row, solved(row)) for row in rows(migration)]
    return [(row, solution) for row, solution in found if solution is not None]


def amounts(solution):
    """Return the number of the tags that are set, and the list of how often each tree stands that may be any."""
    equations, roots, order = solution
    times = equations.times_used(roots, order)
    set_tags = sum([times[number] for number in order if equations.tags[number] is not None])
    return (set_tags, [times[number] for number in order if equations.tags[number] is None])


def least_size(solution):
    """Return the size of the smallest record that stays."""
    set_tags, times = amounts(solution)
    return set_tags + sum(times)


def ways(counts, set_tags, times):
    """Return in how many ways trees, each standing so many times, fill a size with the tags that are set.

    The counts are those of the trees of each size up to this one.
    """
    size = len(counts) - 1
    if set_tags + sum(times) > size:
        return 0
    found = [1 if filled == set_tags else 0 for filled in range(size + 1)]
    for many in times:
        found = [
            sum([found[filled - many * each] * counts[each] for each in range(1, filled // many + 1)])
            for filled in range(size + 1)
        ]
    return found[size]


def staying(migration, size):
    """Return how many records of a size stay."""
    told = rows_with_staying(migration)
    counts = [many[1] for many in counts_by_size(migration.kind, size, 1)]
    total = 0
    for row, solution in told:
        set_tags, times = amounts(solution)
        total = total + (row[2] - row[1] + 1) * ways(counts, set_tags, times)
    return total


def smallest(kind, row, solution):
    """Return the first record that stays by a row."""
    equations, roots, order = solution
    trees = {}
    for number in order[::-1]:
        tag = equations.tags[number]
        below = [trees[part] for part in equations.parts_below(number)]
        trees[number] = numbered_tree(kind, 0) if tag is None else (tag,) + tuple(below)
    return (row[0], row[1], tuple([trees[root] for root in roots]))


def first_staying(migration):
    """Return the first record that stays, or None."""
    kind = migration.kind
    told = [(least_size(solution), row, solution) for row, solution in rows_with_staying(migration)]
    if not told:
        return None
    least = in_order([(size, size) for size, _, _ in told])[0]
    if least > MOST_TAGS:
        raise TooMany(MOST_TAGS)
    found = [smallest(kind, row, solution) for size, row, solution in told if size == least]
    return in_order([(order_of_record(kind, record), record) for record in found])[0]
