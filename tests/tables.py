"""Tables of rows, made by chance, and lists of rows that are none."""

from oracle import all_records
from plain_rows import filled, holes_in, image_by

LEAF = ("leaf",)


def count_tags(pattern):
    return 0 if isinstance(pattern, int) else 1 + sum(count_tags(part) for part in pattern[1:])


def weight(kind, rows):
    """The number of the tags in all patterns and images, times the degree of F less 1."""
    most = max(parts for _, parts in kind)
    return (most - 1) * sum(count_tags(pattern) for row in rows for pattern in row[3] + row[6])


def holes_of(cell):
    return [hole for pattern in cell[3] for hole in holes_in(pattern)]


def opened(kind, cell, hole):
    """The cells that come from a cell by a tag in a hole's place."""
    k, low, high, patterns = cell
    found = []
    for tag, parts in kind:
        worth = {other: other for other in holes_of(cell)}
        worth[hole] = (tag, *range(1000, 1000 + parts))
        told = (k, low, high, tuple(filled(pattern, worth) for pattern in patterns), 0, 0, ())
        holes = [hole for pattern in told[3] for hole in holes_in(pattern)]
        names = {hole: at for at, hole in enumerate(holes)}
        found.append((k, low, high, tuple(filled(pattern, names) for pattern in told[3])))
    return found


def by_shape(cells):
    """The places of cells in a list, by their number of holes and of places."""
    found = {}
    for at, cell in enumerate(cells):
        found.setdefault((len(holes_of(cell)), cell[2] - cell[1] + 1), []).append(at)
    return found


def table(kind, factors, many, chance, most_rows=12, most_weight=36):
    """A table from a layout to itself: both sides are parted and opened so many times in like ways, then put together."""
    sides = [[(k, 0, factor - 1, tuple(range(k))) for k, factor in enumerate(factors) if factor] for _ in range(2)]
    best = joined(sides, chance)
    for _ in range(many):
        shapes = [by_shape(side) for side in sides]
        holes, width = chance.choice(sorted(shapes[0]))
        told = []
        cut = chance.randint(1, width - 1) if width > 1 and chance.random() < 0.5 else 0
        if not cut and not holes:
            continue
        for side, shape in zip(sides, shapes):
            at = chance.choice(shape[holes, width])
            k, low, high, patterns = side[at]
            if cut:
                point = low + chance.choice((cut, width - cut))
                new = [(k, low, point - 1, patterns), (k, point, high, patterns)]
            else:
                new = opened(kind, side[at], chance.randrange(holes))
            told.append(side[:at] + new + side[at + 1:])
        rows = joined(told, chance)
        if len(rows) <= most_rows and weight(kind, rows) <= most_weight:
            sides, best = told, rows
    return best


def joined(sides, chance):
    """Rows that lead each cell of the one side to one of the other side with as many holes and places."""
    shapes = by_shape(sides[1])
    rows = []
    for k, low, high, patterns in sides[0]:
        shape = (len(holes_of((k, low, high, patterns))), high - low + 1)
        at = shapes[shape].pop(chance.randrange(len(shapes[shape])))
        degree, first, _, images = sides[1][at]
        names = list(range(shape[0]))
        chance.shuffle(names)
        rows.append((k, low, high, patterns, degree, first, tuple(filled(image, dict(enumerate(names))) for image in images)))
    chance.shuffle(rows)
    return rows


def in_rounds(chance):
    """A table of binary trees from t^3 to t^3, of which no single tree parts the rows."""
    forms = [(LEAF, ("join",), None), (None, LEAF, ("join",)), (("join",), None, LEAF)]
    others = [(LEAF, LEAF, LEAF), (("join",), ("join",), ("join",))]
    images = list(forms)
    chance.shuffle(images)
    rows = []
    for one, other in zip(forms + others, images + others):
        patterns, many = with_holes(one)
        told, _ = with_holes(other)
        names = list(range(many))
        chance.shuffle(names)
        rows.append((3, 0, 0, patterns, 3, 0, tuple(filled(image, dict(enumerate(names))) for image in told)))
    chance.shuffle(rows)
    return rows


def with_holes(form):
    """The patterns of a form, and how many holes they have."""
    found, many = [], 0
    for part in form:
        more = 1 if part is None else 2 if part == ("join",) else 0
        found.append(many if part is None else part + tuple(range(many, many + more)))
        many += more
    return tuple(found), many


def faults(kind, factors, target, rows, size):
    """All faults up to a size that rows have, by going through the records."""
    found = []
    sources = all_records(kind, factors, size)
    for record in sources:
        holding = [row for row in rows if image_by(row, record) is not None]
        if len(holding) != 1:
            found.append(("several" if holding else "none", record))
    for record in all_records(kind, target, size):
        led = {back_by(row, record) for row in rows} - {None}
        if len(led) != 1:
            found.append(("met" if led else "unmet", record))
    return found


def back_by(row, record):
    """The record that a row leads to a record, or None."""
    k, low, high, patterns, degree, first, images = row
    return image_by((degree, first, first + high - low, images, k, low, patterns), record)
