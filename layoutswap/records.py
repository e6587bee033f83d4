"""Records of a layout: their order, their numbers, and those of sums and products of layouts."""

from layoutswap.errors import NoNumber, NoRecord
from layoutswap.forests import (
    counted, counts_by_size, counts_to_number, forest_by_rank, most_trees, rank_of_forest, size_of_forest, sizes_ahead,
)
from layoutswap.names import is_integer
from layoutswap.trees import forests_in_order, is_number, is_tree


def is_record(kind, layout, thing):
    """Tell whether any object is a record of the layout."""
    if not isinstance(thing, tuple) or len(thing) != 3:
        return False
    k, i, trees = thing
    if not is_integer(k) or not is_integer(i) or not isinstance(trees, tuple) or len(trees) != k:
        return False
    return 0 <= i < layout[k] and all([is_tree(kind, tree) for tree in trees])


def size_of_record(record):
    """Return the size of a record: that of all its trees."""
    return size_of_forest(record[2])


def order_of_record(kind, record):
    """Return what records are ordered by: a tuple of integers."""
    k, i, trees = record
    places = {variant: at for at, variant in enumerate(kind)}
    # Two trees are told apart by the first tag, from the left, that has another size or variant.
    order = [(size, places[tag, parts]) for tag, parts, size in sizes_ahead(trees)]
    return (size_of_record(record), k, i) + tuple([number for pair in order for number in pair])


def how_many_records(kind, layout, size):
    """Return the number of records of a size."""
    return counted(layout.factors, counts_by_size(kind, size, most_trees(layout.factors))[size])


def records_of(kind, layout, size):
    """Generate the records of a size, in order."""
    rows = counts_by_size(kind, size, most_trees(layout.factors))
    for k, factor in enumerate(layout.factors):
        # A factor may be great: without a forest its places are not gone through.
        if rows[size][k] > 0:
            for i in range(factor):
                for trees in forests_in_order(kind, rows, k, size):
                    yield (k, i, trees)


def record_number(kind, layout, record):
    """Return the number of a record."""
    if not is_record(kind, layout, record):
        raise NoRecord("this is no record of the layout")
    k, i, trees = record
    size = size_of_record(record)
    rows = counts_by_size(kind, size, most_trees(layout.factors))
    smaller = sum([counted(layout.factors, counts) for counts in rows[:size]])
    fewer = sum([layout[j] * rows[size][j] for j in range(k)])
    return smaller + fewer + i * rows[size][k] + rank_of_forest(kind, rows, trees)


def record_by_rank(kind, layout, rows, rank):
    """Return the record with a rank among those of the last size that the rows of counts are for."""
    size = len(rows) - 1
    k = 0
    while rank >= layout[k] * rows[size][k]:
        rank = rank - layout[k] * rows[size][k]
        k += 1
    i, inner = divmod(rank, rows[size][k])
    return (k, i, forest_by_rank(kind, rows, k, size, inner))


def numbered_record(kind, layout, number):
    """Return the record with a number, or None if there are not so many."""
    if not is_number(number):
        raise NoNumber("a number is an integer from 0 to 10 ^ 40")
    if layout.constant and number >= layout.total:
        return None
    rows, rank = counts_to_number(kind, layout.factors, number)
    return record_by_rank(kind, layout, rows, rank)


def into_sum(one, other, side, record):
    """Return the record of one + other that a record of one (side 0) or of other (side 1) becomes."""
    k, i, trees = record
    return (k, i + one[k] * side, trees)


def from_sum(one, other, record):
    """Return the (side, record) that becomes a record of one + other."""
    k, i, trees = record
    return (0, record) if i < one[k] else (1, (k, i - one[k], trees))


def into_product(one, other, first, second):
    """Return the record of one * other of a record of one and a record of other."""
    j, i, trees = first
    k, m, others = second
    ahead = sum([one[fewer] * other[j + k - fewer] for fewer in range(j)])
    return (j + k, ahead + i * other[k] + m, trees + others)


def from_product(one, other, record):
    """Return the (first, second) that become a record of one * other."""
    many, index, trees = record
    j = 0
    while index >= one[j] * other[many - j]:
        index = index - one[j] * other[many - j]
        j += 1
    i, m = divmod(index, other[many - j])
    return ((j, i, trees[:j]), (many - j, m, trees[j:]))
