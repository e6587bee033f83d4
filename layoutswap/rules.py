"""Migrations that are made from tables of rows, and what shows that rows are no table."""

from layoutswap.bench import Bench
from layoutswap.deviations import first_trees
from layoutswap.errors import NoRow, NoTable
from layoutswap.kinds import check_kind
from layoutswap.meets import shifted
from layoutswap.migrations import Migration
from layoutswap.partings import parted
from layoutswap.patterns import bindings, holes_of, matched, substituted
from layoutswap.records import is_record, order_of_record
from layoutswap.tables import in_reverse, is_row, led_by


def check_rows(kind, source, target, some):
    """Raise NoKind or NoRow if any objects are no kind and no list of rows between two layouts."""
    check_kind(kind)
    if not isinstance(some, list):
        raise NoRow(-1)
    for place, row in enumerate(some):
        if not is_row(kind, row) or row[2] >= source[row[0]] or row[5] + row[2] - row[1] >= target[row[4]]:
            raise NoRow(place)


def common_record(kind, row, other):
    """Return a record for which two rows hold, or None."""
    low = row[1] if row[1] > other[1] else other[1]
    if row[0] != other[0] or low > row[2] or low > other[2]:
        return None
    worth = bindings(row[3], shifted(other, len(holes_of(row[3])))[3])
    return None if worth is None else (row[0], low, first_trees(kind, substituted(row[3], worth), []))


def check_apart(kind, some, word):
    """Raise NoTable with a word and a record if there is a record for which two of some rows hold."""
    for place, row in enumerate(some):
        for other in some[:place]:
            record = common_record(kind, row, other)
            if record is not None:
                raise NoTable((word, record))


def cells_by_row(bench, some, word):
    """Open a layout until each cell lies within one row, and return for each row the list of its cells' numbers.

    Raise NoTable with a word and a record if there is a record for which no row holds.
    """
    members = [(place, row[0], row[1], row[2], row[3]) for place, row in enumerate(some)]
    found = [[] for _ in some]
    for first in list(bench.cells):
        for number, place in parted(bench, first, members):
            if place is None:
                k, low, _, patterns, _ = bench.cells[number]
                raise NoTable((word, (k, low, first_trees(bench.kind, patterns, []))))
            found[place].append(number)
    return found


def in_both(row, cell, behind):
    """Return the patterns of what a cell of the source and one of the target, both of a row, have in common, or None.

    They are told on both sides: in the source and in the target. No row is parted at
    an index, so both cells have all places of the row.
    """
    worth, images = matched(row[3], cell[3]), matched(row[6], behind[3])
    bound = bindings([worth[hole] for hole in range(len(worth))], [images[hole] for hole in range(len(worth))])
    return None if bound is None else (substituted(cell[3], bound), substituted(behind[3], bound))


def part_alike(ahead, behind, row, numbers, others):
    """Open the cells of a row in the source and in the target until they are the same, and return pairs of them."""
    found = {number: [] for number in numbers}
    told = {other: [] for other in others}
    for number in numbers:
        for other in others:
            both = in_both(row, ahead.cells[number], behind.cells[other])
            if both is not None:
                label = (number, other)
                found[number].append((label, row[0], row[1], row[2], both[0]))
                told[other].append((label, row[4], row[5], row[5] + row[2] - row[1], both[1]))
    cells = {}
    for number in numbers:
        for cell, label in parted(ahead, number, found[number]):
            cells[label] = cell
    pairs = []
    for other in others:
        for cell, label in parted(behind, other, told[other]):
            pairs.append((cells[label], cell))
    return pairs


def holes_by_row(patterns, cell):
    """Return the list of the holes of a cell within a row's patterns or images, by the holes of the row."""
    worth = matched(patterns, cell[3])
    return [hole for place in range(len(worth)) for hole in holes_of((worth[place],))]


def wanted_order(row, cell, behind):
    """Return the holes of a cell of the source in the order of the trees in the cell of the target that it becomes."""
    partners = dict(zip(holes_by_row(row[6], behind), holes_by_row(row[3], cell)))
    return tuple([partners[hole] for hole in behind[4]])


def set_in_order(ahead, behind, pairs):
    """Move and turn the cells of the source, so that they stand as those of the target do.

    The pairs are a dict from the cells of the target to those of the source and their rows.
    """
    for degree, queue in behind.queues.items():
        wanted = [pairs[number][0] for number in queue]
        told = [(ahead.cells[pairs[number][0]], behind.cells[number], pairs[number][1]) for number in queue]
        orders = [wanted_order(row, cell, other) for cell, other, row in told]
        if wanted != ahead.queues.get(degree) or orders != [cell[4] for cell, _, _ in told]:
            for number, order in zip(wanted, orders):
                ahead.bring_to_end(number)
                ahead.arrange(number, order)


def migration_by(kind, source, target, some):
    """Return a migration that leads each record of the source as the rows of a table tell."""
    check_rows(kind, source, target, some)
    backwards = [in_reverse(row) for row in some]
    ahead, behind = Bench(kind, source, 1), Bench(kind, target, -1)
    check_apart(kind, some, "several")
    numbers = cells_by_row(ahead, some, "none")
    check_apart(kind, backwards, "met")
    others = cells_by_row(behind, backwards, "unmet")
    pairs = {}
    for place, row in enumerate(some):
        for cell, other in part_alike(ahead, behind, row, numbers[place], others[place]):
            pairs[other] = (cell, row)
    set_in_order(ahead, behind, pairs)
    return Migration(kind, source, ahead.steps + behind.undoing_steps())


def count_led(kind, some, record):
    """Return the number of the records to which some rows that hold for a record lead it."""
    images = [led_by(row, record) for row in some]
    return len({order_of_record(kind, image): True for image in images if image is not None})


def shows_fault(kind, source, target, some, thing):
    """Tell whether any object is a fault that shows that rows are no table."""
    check_rows(kind, source, target, some)
    if not isinstance(thing, tuple) or len(thing) != 2 or not isinstance(thing[0], str):
        return False
    word, record = thing
    if word in ("none", "several"):
        if not is_record(kind, source, record):
            return False
        many = len([row for row in some if led_by(row, record) is not None])
        return many == 0 if word == "none" else many > 1
    if word in ("unmet", "met") and is_record(kind, target, record):
        many = count_led(kind, [in_reverse(row) for row in some], record)
        return many == 0 if word == "unmet" else many > 1
    return False
