"""Forests, which are tuples of trees of a kind: how many there are, and their places in order.

Forests of as many trees and the same size are ordered by their trees from the
left. Counts are lists: for each number of trees, from 0 on, how many forests
have a size. Trees may be deep, so none of this calls itself.
"""

from layoutswap.kinds import MOST_PARTS, parts_of, polynomial
from layoutswap.patterns import nodes_ahead


def next_counts(kind, counts):
    """Return the counts of the size behind the one that these counts, all of them, are for."""
    padded = counts + [0] * MOST_PARTS
    found = [0] * len(counts)
    # Without its first tag a forest has one tag less, and the first tree's parts in place of this tree.
    for parts, many in enumerate(polynomial(kind)):
        found = [total + many * more for total, more in zip(found, padded[parts:])]
    return [0] + found


def counts_up_to(counts, most):
    """Return the first ones of some counts, up to forests of so many trees."""
    return (counts + [0] * most)[:most + 1]


def counts_by_size(kind, size, most):
    """Return the list of the counts of all sizes up to one, for forests of up to so many trees."""
    counts = [1]
    rows = [counts_up_to(counts, most)]
    for _ in range(size):
        counts = next_counts(kind, counts)
        rows.append(counts_up_to(counts, most))
    return rows


def counted(factors, counts):
    """Return how many forests there are, each counted so often as its number of trees has as factor."""
    return sum([factor * counts[k] for k, factor in enumerate(factors)])


def most_trees(factors):
    """Return up to how many trees counts are needed: for the factors, and for the parts of a tree."""
    return max(MOST_PARTS, len(factors))


def counts_to_number(kind, factors, number):
    """Return the counts by size up to the size at which a number is reached, and what is left of it there."""
    most = most_trees(factors)
    counts = [1]
    rows = [counts_up_to(counts, most)]
    left = number
    while left >= counted(factors, rows[-1]):
        left = left - counted(factors, rows[-1])
        counts = next_counts(kind, counts)
        rows.append(counts_up_to(counts, most))
    return (rows, left)


def size_of_forest(trees):
    """Return the number of the tags of some trees."""
    return len(nodes_ahead(trees))


def sizes_ahead(trees):
    """Return the list of all (tag, parts, size of its tree) of some trees, in the order of nodes_ahead."""
    found = []
    sizes = []
    for tag, parts in nodes_ahead(trees)[::-1]:
        start = len(sizes) - parts
        size = 1 + sum(sizes[start:])
        sizes[start:] = [size]
        found.append((tag, parts, size))
    return found[::-1]


def trees_from(kind, tags):
    """Return the tuple of the trees that have these tags in the order of nodes_ahead."""
    trees = []
    for tag in tags[::-1]:
        start = len(trees) - parts_of(kind, tag)
        # Those behind the tag were found first, from the right, so its parts stand in reverse.
        tree = (tag,) + tuple(trees[start:][::-1])
        trees[start:] = [tree]
    return tuple(trees[::-1])


def firsts_between(rows, many, size, low, high):
    """Return how many forests of so many trees and a size have a first tree of a size from low to below high."""
    return sum([rows[first][1] * rows[size - first][many - 1] for first in range(low, high)])


def smaller_firsts(rows, many, size, first):
    """Return how many forests of so many trees and a size have a first tree of less than a size."""
    # The shorter sum is taken, so that the sums for a deep tree do not all grow with its depth.
    if 2 * first <= size:
        return firsts_between(rows, many, size, 1, first)
    return rows[size][many] - firsts_between(rows, many, size, first, size + 1)


def trees_ahead(kind, counts, tag):
    """Return how many trees have the tag of a variant ahead of this tag's; the counts are for their parts' size."""
    total = 0
    for other, parts in kind:
        if other == tag:
            break
        total = total + counts[parts]
    return total


def rank_of_forest(kind, rows, trees):
    """Return how many forests of as many trees and the same size come ahead of this one."""
    found = sizes_ahead(trees)
    rank = 0
    # What is left to read: so many trees, their size, and by how much a rank among them counts.
    waiting = [(len(trees), len(found), 1)]
    for tag, parts, size in found:
        many, whole, weight = waiting.pop()
        others = whole - size
        inner = weight * rows[others][many - 1]
        rank = rank + weight * smaller_firsts(rows, many, whole, size) + inner * trees_ahead(kind, rows[size - 1], tag)
        if many > 1:
            waiting.append((many - 1, others, weight))
        if parts > 0:
            waiting.append((parts, size - 1, inner))
    return rank


def first_by_rank(rows, many, size, rank):
    """Return the size of the first tree of a forest with a rank, this tree's rank and that of the others."""
    first = 1
    here = rows[first][1] * rows[size - first][many - 1]
    while rank >= here:
        rank = rank - here
        first += 1
        here = rows[first][1] * rows[size - first][many - 1]
    return (first,) + divmod(rank, rows[size - first][many - 1])


def variant_by_rank(kind, counts, rank):
    """Return the variant of a tree with a rank, and the rank of its parts; the counts are for their size."""
    at = 0
    while rank >= counts[kind[at][1]]:
        rank = rank - counts[kind[at][1]]
        at += 1
    return kind[at] + (rank,)


def forest_by_rank(kind, rows, many, size, rank):
    """Return the forest of so many trees and a size with a rank, which is less than how many there are."""
    tags = []
    waiting = [(many, size, rank)]
    while waiting:
        many, size, rank = waiting.pop()
        if many > 0:
            first, inner, outer = first_by_rank(rows, many, size, rank)
            tag, parts, inner = variant_by_rank(kind, rows[first - 1], inner)
            tags.append(tag)
            waiting.append((many - 1, size - first, outer))
            waiting.append((parts, first - 1, inner))
    return trees_from(kind, tags)
