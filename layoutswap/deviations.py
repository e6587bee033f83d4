"""Records that two rows lead to different ones."""

from layoutswap.meets import indexed, met_by, mirrored
from layoutswap.ordering import in_order
from layoutswap.patterns import bindings, holes_of, nodes_ahead, substituted
from layoutswap.records import order_of_record
from layoutswap.trees import numbered_tree


def least_size(patterns):
    """Return the size of the smallest trees that come from some patterns: in each hole can stand a tree of one tag."""
    return len(nodes_ahead(patterns))


def lead_apart(row, other):
    """Tell whether two rows lead each record to two different places."""
    return row[4] != other[4] or row[5] - row[1] != other[5] - other[1]


def differences(row, other, worth):
    """Return the list of the pairs of what two rows with images of one number of trees put at the same place.

    The holes' worth is such that both patterns are equal. Pairs of the same thing are left out.
    """
    found = []
    waiting = list(zip(row[6], other[6]))
    while waiting:
        first, second = waiting.pop()
        # What a hole is worth has only holes that stay free.
        first = worth.get(first, first) if isinstance(first, int) else first
        second = worth.get(second, second) if isinstance(second, int) else second
        if isinstance(first, int) or isinstance(second, int):
            if isinstance(first, tuple) or isinstance(second, tuple) or first != second:
                found.append((first, second))
        elif first[0] != second[0]:
            found.append((first, second))
        else:
            waiting.extend(list(zip(first[1:], second[1:])))
    return found


def lead_to_two(row, other):
    """Tell whether two rows that meet, with different holes, lead some record to two different ones."""
    return lead_apart(row, other) or len(differences(row, other, bindings(row[3], other[3]))) > 0


def changes_nothing_by(row):
    """Tell whether a row leads each record to itself."""
    return row[0] == row[4] and row[1] == row[5] and nodes_ahead(row[3]) == nodes_ahead(row[6])


def indexes_of(others):
    """Return an index of some rows with different holes, and one of those of them that change something."""
    changing = [other for other in others if not changes_nothing_by(other)]
    return (indexed([mirrored(other) for other in others]), indexed([mirrored(other) for other in changing]))


def compared_with(indexes, row):
    """Return the list of the rows of two indexes that may lead a record elsewhere than a row does."""
    return met_by(indexes[1 if changes_nothing_by(row) else 0], row)


def lead_alike(some, others):
    """Tell whether no record is led to two different ones by two of some rows and others."""
    indexes = indexes_of(others)
    for row in some:
        for other in compared_with(indexes, row):
            if lead_to_two(row, other):
                return False
    return True


def may_be_leaf(leaf, thing):
    """Tell whether a part of an image is a hole, or the first of all trees."""
    return isinstance(thing, int) or thing == leaf


def first_trees(kind, patterns, pairs):
    """Return the first trees of some patterns for which these pairs of parts are not all the same.

    Without pairs the first trees at all are returned.
    """
    leaf = numbered_tree(kind, 0)
    holes = holes_of(patterns)
    worth = {hole: leaf for hole in holes}
    if all([may_be_leaf(leaf, part) for pair in pairs for part in pair]):
        # The first trees everywhere make all pairs the same. One greater tree is enough; it stands as far behind
        # as it can: of two holes in a pair it is the later one that gets it.
        told = {part: True for pair in pairs for part in pair if isinstance(part, int)}
        for hole in [hole for hole in holes if hole in told][-1:]:
            worth[hole] = numbered_tree(kind, 1)
    return substituted(patterns, worth)


def first_led_to_two(kind, row, other):
    """Return the first record that two rows that meet, with different holes, lead to two, or None."""
    worth = bindings(row[3], other[3])
    pairs = [] if lead_apart(row, other) else differences(row, other, worth)
    if not pairs and not lead_apart(row, other):
        return None
    trees = first_trees(kind, substituted(row[3], worth), pairs)
    return (row[0], row[1] if row[1] > other[1] else other[1], trees)


def first_deviation(kind, some, others):
    """Return the first record that is led to two different ones by one of some rows and one of others, or None."""
    indexes = indexes_of(others)
    best = None
    key = ()
    for row in in_order([(least_size(row[3]), row) for row in some]):
        # No record for which both hold is smaller than the smallest ones for which either does.
        if best is not None and key[0] < least_size(row[3]):
            break
        for other in compared_with(indexes, row):
            if best is None or key[0] >= least_size(other[3]):
                found = first_led_to_two(kind, row, other)
                if found is not None and (best is None or order_of_record(kind, found) < key):
                    best = found
                    key = order_of_record(kind, found)
    return best
