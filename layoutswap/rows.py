"""The rows of a migration: where it leads all records, told by patterns."""

from layoutswap.coverage import hold_once
from layoutswap.deviations import lead_alike
from layoutswap.errors import NoRecord, TooMany
from layoutswap.kinds import polynomial
from layoutswap.ordering import in_order
from layoutswap.patterns import holes_of, nodes_ahead, substituted
from layoutswap.steps import led_on
from layoutswap.tables import are_rows, led_by

MOST_ROWS = 400


def first_rows(layout):
    """Return the list of the rows of no steps."""
    found = []
    for k, factor in enumerate(layout.factors):
        if factor > 0:
            holes = tuple(range(k))
            found.append((k, 0, factor - 1, holes, k, 0, holes))
    return found


def parting_points(kind, layout, step):
    """Return the dict from numbers of trees to the ascending list of the indexes at which a step parts places."""
    word, k = step[:2]
    if word == "move":
        return {k: [step[2], step[2] + step[3]]}
    n = step[2]
    if word != "close":
        return {k: [layout[k] - n]}
    points = {}
    for parts, many in enumerate(polynomial(kind)):
        if many > 0:
            degree = k - 1 + parts
            points[degree] = [layout[degree] - n * left for left in reversed(range(1, many + 1))]
    return points


def pieces(row, points):
    """Return the list of the rows that come from cutting a row where its images have these indexes."""
    k, low, high, patterns, degree, first, images = row
    found = []
    for point in points:
        if first < point <= first + high - low:
            middle = low + point - first
            found.append((k, low, middle - 1, patterns, degree, first, images))
            low, first = middle, point
    found.append((k, low, high, patterns, degree, first, images))
    return found


def with_tag(row, hole, tag, parts):
    """Return the row with a tag and new holes in the place of a hole."""
    k, low, high, patterns, degree, first, images = row
    worth = {other: other + parts - 1 for other in holes_of(patterns) if other > hole}
    worth[hole] = (tag,) + tuple(range(hole, hole + parts))
    return (k, low, high, substituted(patterns, worth), degree, first, substituted(images, worth))


def variants_of(kind, row):
    """Return the rows that come from a row by a tag in place of its first image, if this is a hole."""
    hole = row[6][0]
    if not isinstance(hole, int):
        return [row]
    return [with_tag(row, hole, tag, parts) for tag, parts in kind]


def row_behind(kind, layout, step, row):
    """Return the row whose images a step at a layout leads on; it does not part them."""
    k, low, high, patterns, degree, first, images = row
    return (k, low, high, patterns) + led_on(kind, layout, step, (degree, first, images))


def rows_behind(kind, layout, step, points, row):
    """Return the list of the rows that come from a row at a step, which parts places at these points."""
    if row[4] not in points or row[5] + row[2] - row[1] < points[row[4]][0]:
        return [row]
    found = []
    for piece in pieces(row, points[row[4]]):
        goes_out = step[0] == "open" and piece[5] >= points[row[4]][0]
        found.extend(variants_of(kind, piece) if goes_out else [piece])
    return [row_behind(kind, layout, step, piece) for piece in found]


def row_key(kind, row):
    """Return what rows are ordered by."""
    places = {variant: 1 + at for at, variant in enumerate(kind)}
    nodes = [0 if isinstance(node, int) else places[node] for node in nodes_ahead(row[3])]
    return (row[0], row[1]) + tuple(nodes)


def rows(migration):
    """Return the list of the rows of a migration, in order."""
    kind = migration.kind
    found = first_rows(migration.source)
    for place, step in enumerate(migration.steps):
        layout = migration.layouts[place]
        points = parting_points(kind, layout, step)
        found = [behind for row in found for behind in rows_behind(kind, layout, step, points, row)]
        if len(found) > MOST_ROWS:
            raise TooMany(MOST_ROWS)
    return in_order([(row_key(kind, row), row) for row in found])


def row_of(migration, record):
    """Return the row of a migration that holds for a record."""
    if record not in migration:
        raise NoRecord("this is no record of the source")
    holding = [row for row in rows(migration) if led_by(row, record) is not None]
    return holding[0]


def by_rows(some, record):
    """Return the record to which the first of some rows that holds for a record leads it, or None."""
    for row in some:
        image = led_by(row, record)
        if image is not None:
            return image
    return None


def shows_rows(migration, thing):
    """Tell whether any object is a list of rows that lead all records as the migration does."""
    right = rows(migration)
    if not are_rows(migration.kind, migration.source, thing) or not hold_once(migration.kind, migration.source, thing):
        return False
    return lead_alike(right, thing)
