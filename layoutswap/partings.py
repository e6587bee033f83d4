"""Cells of places, parted and opened until each of them lies within one of some members.

A member is a tuple (label, k, low, high, patterns); no two of them have a record in common.
"""


def tagged_holes(patterns, others):
    """Return the list of the holes of some patterns where others have a tag, None if no trees come from both."""
    found = []
    waiting = list(zip(patterns, others))
    while waiting:
        pattern, other = waiting.pop()
        if isinstance(other, int):
            continue
        if isinstance(pattern, int):
            found.append(pattern)
        elif pattern[0] != other[0]:
            return None
        else:
            waiting.extend(list(zip(pattern[1:], other[1:])))
    return found


def meeting(cell, members):
    """Return the list of the (member, holes of the cell where it has a tag) with a record in common with a cell."""
    k, low, high, patterns, _ = cell
    near = [member for member in members if member[1] == k and member[2] <= high and low <= member[3]]
    found = [(member, tagged_holes(patterns, member[4])) for member in near]
    return [(member, holes) for member, holes in found if holes is not None]


def most_tagged(met):
    """Return the hole at which most members have a tag, None if none has any."""
    counts = {}
    for _, holes in met:
        for hole in holes:
            counts[hole] = counts.get(hole, 0) + 1
    best = None
    for hole, many in counts.items():
        if best is None or many > counts[best]:
            best = hole
    return best


def points_between(cell, met):
    """Return the list of the indexes in a cell at which members begin or others can begin, and none is parted."""
    starts = [member[2] for member, _ in met] + [member[3] + 1 for member, _ in met]
    within = [point for point in starts if cell[1] < point <= cell[2]]
    return [point for point in within if all([member[3] < point or point <= member[2] for member, _ in met])]


def done_next(bench, number, met):
    """Part or open a cell that some members meet, and return the numbers of the cells that come; [] if it is in one.

    No member is parted at an index. Members of which none has a tag in the cell lie
    side by side there, so if there is no point between them the cell is in one.
    """
    points = points_between(bench.cells[number], met)
    if points:
        return bench.cut(number, points[0])
    hole = most_tagged(met)
    return [] if hole is None else bench.open_hole(number, hole)


def parted(bench, number, members):
    """Part and open a cell until each cell that comes lies within a member or meets none.

    Return the list of the (number of a cell, label of its member, or None). If the
    members come from opening the cell hole by hole, there is one cell for each of
    them: at each time there is a hole at which all that meet the cell have a tag.
    """
    found = []
    waiting = [(number, members)]
    while waiting:
        number, some = waiting.pop()
        met = meeting(bench.cells[number], some)
        further = done_next(bench, number, met) if met else []
        if not further:
            found.append((number, met[0][0][0] if met else None))
        waiting.extend([(part, [member for member, _ in met]) for part in further])
    return found
