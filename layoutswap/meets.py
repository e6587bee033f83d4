"""Which rows hold for the same records as another one."""

from layoutswap.patterns import holes_of, nodes_ahead, substituted

# What stands for a hole, and for the rows that end there, in an index of rows. Tags stand there as (tag, parts).
HOLE = 0
ROWS = -1


def shifted(row, many):
    """Return a row with its holes shifted behind so many others."""
    k, low, high, patterns, degree, first, images = row
    worth = {hole: hole + many for hole in holes_of(patterns)}
    return (k, low, high, substituted(patterns, worth), degree, first, substituted(images, worth))


def indexed(some):
    """Return an index of rows: dicts in dicts, by the number of trees and then by each node of the patterns."""
    index = {}
    for row in some:
        below = index.setdefault(row[0], {})
        for node in nodes_ahead(row[3]):
            below = below.setdefault(HOLE if isinstance(node, int) else node, {})
        below.setdefault(ROWS, []).append(row)
    return index


def ends_of(nodes):
    """Return for each node of some patterns the place of the first node behind all its parts."""
    ends = [0 for _ in nodes]
    for at in reversed(range(len(nodes))):
        end = at + 1
        if not isinstance(nodes[at], int):
            for _ in range(nodes[at][1]):
                end = ends[end]
        ends[at] = end
    return ends


def fitting(index, k, patterns):
    """Return the list of the rows of an index whose patterns some trees fit that fit these patterns, too."""
    nodes = nodes_ahead(patterns)
    ends = ends_of(nodes)
    found = []
    # A part of the index, the place of the next node, and how many whole patterns of the index it is to pass first.
    waiting = [(index.get(k, {}), 0, 0)]
    while waiting:
        below, at, owed = waiting.pop()
        if owed > 0:
            for key, further in below.items():
                waiting.append((further, at, owed - 1 if key == HOLE else owed - 1 + key[1]))
        elif at == len(nodes):
            found.extend(below.get(ROWS, []))
        elif isinstance(nodes[at], int):
            waiting.append((below, at + 1, 1))
        else:
            for key, end in ((nodes[at], at + 1), (HOLE, ends[at])):
                if key in below:
                    waiting.append((below[key], end, 0))
    return found


def met_by(index, row):
    """Return the list of the rows of an index that hold for some records for which this row holds."""
    return [other for other in fitting(index, row[0], row[3]) if other[1] <= row[2] and row[1] <= other[2]]


def are_apart(some):
    """Tell whether no record is one for which two of some rows hold."""
    index = indexed(some)
    # Each row meets itself.
    return all([len(met_by(index, row)) == 1 for row in some])
