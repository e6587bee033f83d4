"""Records that two rows lead to different ones."""

from layoutswap.equations import Parts
from layoutswap.meets import indexed, met_by, shifted
from layoutswap.ordering import in_order
from layoutswap.patterns import bindings, holes_of, nodes_ahead, substituted
from layoutswap.records import order_of_record
from layoutswap.trees import numbered_tree


def most_holes(some):
    """Return how many holes a row of some has at the most."""
    return max([len(holes_of(row[3])) for row in some], default=0)


def numbered(parts, row):
    """Return a row with more behind it: the numbers of its patterns, those of its images, and the least size."""
    # In each hole can stand a tree of one tag.
    return row + (parts.numbers_of(row[3]), parts.numbers_of(row[6]), len(nodes_ahead(row[3])))


class Comparison:
    """Two lists of rows, numbered, with different holes: the ones from the smallest on, the others in an index."""

    def __init__(self, some, others):
        many = most_holes(some)
        self.parts = Parts(many + most_holes(others))
        rows = [numbered(self.parts, row) for row in some]
        self.ones = in_order([(row[9], row) for row in rows])
        self.others = indexed([numbered(self.parts, shifted(row, many)) for row in others])


def bound(parts, row, other):
    """Return what makes the patterns of two rows that meet equal: a dict from numbers of holes to numbers."""
    worth = {}
    waiting = list(zip(row[7], other[7]))
    while waiting:
        first, second = waiting.pop()
        if parts.tags[first] is None:
            worth[first] = second
        elif parts.tags[second] is None:
            worth[second] = first
        elif first != second:
            waiting.extend(list(zip(parts.below[first], parts.below[second])))
    return worth


def differences(parts, row, other):
    """Return the list of the pairs of numbers of what two rows that meet put at the same place, if it is different."""
    worth = bound(parts, row, other)
    found = []
    waiting = list(zip(row[8], other[8]))
    while waiting:
        first, second = waiting.pop()
        # What a hole is worth has only holes that stay free.
        first, second = worth.get(first, first), worth.get(second, second)
        tag = parts.tags[first]
        if first != second and tag is not None and tag == parts.tags[second]:
            waiting.extend(list(zip(parts.below[first], parts.below[second])))
        elif first != second:
            found.append((first, second))
    return found


def lead_apart(row, other):
    """Tell whether two rows lead each record to two different places."""
    return row[4] != other[4] or row[5] - row[1] != other[5] - other[1]


def lead_to_two(parts, row, other):
    """Tell whether two rows that meet lead some record to two different ones."""
    return lead_apart(row, other) or len(differences(parts, row, other)) > 0


def lead_alike(some, others):
    """Tell whether no record is led to two different ones by two of some rows and others."""
    comparison = Comparison(some, others)
    for row in comparison.ones:
        for other in met_by(comparison.others, row):
            if lead_to_two(comparison.parts, row, other):
                return False
    return True


def first_trees(kind, patterns, told):
    """Return the first trees that come from some patterns by a tree for each hole.

    If holes are told, one of them gets the second of all trees: the last one, as all
    trees ahead of it stay smaller so.
    """
    holes = holes_of(patterns)
    worth = {hole: numbered_tree(kind, 0) for hole in holes}
    for last in [hole for hole in holes if hole in told][-1:]:
        worth[last] = numbered_tree(kind, 1)
    return substituted(patterns, worth)


def holes_to_fill(kind, parts, pairs):
    """Return the list of the holes one of which needs another tree than the first one, so that a pair is different.

    It is empty if the first trees in all holes make a pair different.
    """
    leaf = numbered_tree(kind, 0)[0]
    told = [number for pair in pairs for number in pair]
    # Of two holes in a pair the later one gets the greater tree; beside a hole can stand the first tree itself.
    alike = all([parts.tags[number] is None or parts.tags[number] == leaf for number in told])
    return [number for number in told if parts.tags[number] is None] if alike else []


def first_led_to_two(kind, parts, row, other):
    """Return the first record that two rows that meet lead to two different ones, or None."""
    apart = lead_apart(row, other)
    pairs = [] if apart else differences(parts, row, other)
    if not pairs and not apart:
        return None
    patterns = substituted(row[3], bindings(row[3], other[3]))
    low = row[1] if row[1] > other[1] else other[1]
    return (row[0], low, first_trees(kind, patterns, holes_to_fill(kind, parts, pairs)))


def first_deviation(kind, some, others):
    """Return the first record that is led to two different ones by one of some rows and one of others, or None."""
    comparison = Comparison(some, others)
    best = None
    key = ()
    for row in comparison.ones:
        # No record for which both hold is smaller than the smallest ones for which either does.
        if best is not None and key[0] < row[9]:
            break
        for other in met_by(comparison.others, row):
            if best is None or key[0] >= other[9]:
                found = first_led_to_two(kind, comparison.parts, row, other)
                if found is not None and (best is None or order_of_record(kind, found) < key):
                    best = found
                    key = order_of_record(kind, found)
    return best
