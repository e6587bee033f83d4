"""Trees of a kind: their sizes, their order, and their numbers."""

from layoutswap.errors import NoNumber, NoTree
from layoutswap.forests import counts_by_size, counts_to_number, forest_by_rank, rank_of_forest, size_of_forest
from layoutswap.kinds import MOST_PARTS
from layoutswap.names import is_integer

GREATEST_NUMBER = 10 ** 40


def has_tag(numbers, thing):
    """Tell whether any object is a tuple of a tag and as many objects as it has parts; numbers has these by tag."""
    if not isinstance(thing, tuple) or len(thing) == 0 or not isinstance(thing[0], str):
        return False
    return numbers.get(thing[0]) == len(thing) - 1


def is_tree(kind, thing):
    """Tell whether any object is a tree of the kind, of whatever size."""
    numbers = dict(kind)
    waiting = [thing]
    while waiting:
        tree = waiting.pop()
        if not has_tag(numbers, tree):
            return False
        waiting.extend(tree[1:])
    return True


def size_of(tree):
    """Return the number of the tags of a tree."""
    return size_of_forest((tree,))


def how_many(kind, size):
    """Return the number of trees of a size."""
    return counts_by_size(kind, size, 1)[size][1]


def forests_in_order(kind, rows, many, size):
    """Generate the forests of so many trees and a size, in order."""
    if many == 0 and size == 0:
        yield ()
    if many == 0:
        return
    fewer = many - 1
    for first_size in range(1, size + 1):
        others_size = size - first_size
        # Asked first, so that no tree is made which no others can stand beside.
        if rows[first_size][1] > 0 and rows[others_size][fewer] > 0:
            for first in trees_in_order(kind, rows, first_size):
                for others in forests_in_order(kind, rows, fewer, others_size):
                    yield (first,) + others


def trees_in_order(kind, rows, size):
    """Generate the trees of a size, in order."""
    inner = size - 1
    for tag, many in kind:
        for parts in forests_in_order(kind, rows, many, inner):
            yield (tag,) + parts


def trees_of(kind, size):
    """Generate the trees of a size, in order."""
    rows = counts_by_size(kind, size, MOST_PARTS)
    yield from trees_in_order(kind, rows, size)


def is_number(thing):
    """Tell whether any object is an integer that is asked for as a number of a tree or record."""
    return is_integer(thing) and 0 <= thing <= GREATEST_NUMBER


def tree_number(kind, tree):
    """Return the number of a tree."""
    if not is_tree(kind, tree):
        raise NoTree("this is no tree of the kind")
    size = size_of(tree)
    rows = counts_by_size(kind, size, MOST_PARTS)
    smaller = sum([counts[1] for counts in rows[:size]])
    return smaller + rank_of_forest(kind, rows, (tree,))


def numbered_tree(kind, number):
    """Return the tree with a number."""
    if not is_number(number):
        raise NoNumber("a number is an integer from 0 to 10 ^ 40")
    # A tree is numbered as the records of the layout t are, of which it is the only tree.
    rows, rank = counts_to_number(kind, (0, 1), number)
    return forest_by_rank(kind, rows, 1, len(rows) - 1, rank)[0]
