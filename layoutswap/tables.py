"""Rows of tables: what a row is, and where it leads records.

A row is a tuple (k, low, high, patterns, degree, first, images).
"""

from layoutswap.layouts import is_from_zero
from layoutswap.names import is_integer
from layoutswap.patterns import matched, substituted
from layoutswap.trees import has_tag

LENGTH = 7


def holes_in(kind, thing):
    """Return the list of the holes of any object from the left, None if it is no tuple of patterns of the kind."""
    if not isinstance(thing, tuple):
        return None
    numbers = dict(kind)
    holes = []
    waiting = list(thing[::-1])
    while waiting:
        pattern = waiting.pop()
        if is_integer(pattern):
            holes.append(pattern)
        elif has_tag(numbers, pattern):
            waiting.extend(pattern[:0:-1])
        else:
            return None
    return holes


def have_same_holes(kind, patterns, images):
    """Tell whether two objects are tuples of patterns, one with the holes 0, 1, .., the other with the same ones."""
    holes = holes_in(kind, patterns)
    others = holes_in(kind, images)
    if holes is None or others is None:
        return False
    right = list(range(len(holes)))
    return holes == right and sorted([int(hole) for hole in others]) == right


def is_row(kind, thing):
    """Tell whether any object is a row of trees of the kind."""
    if not isinstance(thing, tuple) or len(thing) != LENGTH:
        return False
    k, low, high, patterns, degree, first, images = thing
    if not all([is_from_zero(number) for number in (k, low, high, degree, first)]) or low > high:
        return False
    return have_same_holes(kind, patterns, images) and len(patterns) == k and len(images) == degree


def are_rows(kind, source, thing):
    """Tell whether any object is a list of rows whose places are all there in the source."""
    return isinstance(thing, list) and all([is_row(kind, row) and row[2] < source[row[0]] for row in thing])


def led_by(row, record):
    """Return the record to which a row leads a record, or None if it does not hold for it."""
    k, low, high, patterns, degree, first, images = row
    many, index, trees = record
    if many != k or not low <= index <= high:
        return None
    found = matched(patterns, trees)
    return None if found is None else (degree, first + index - low, substituted(images, found))


def in_reverse(row):
    """Return what leads a row's images back; it is no row only in that its holes may stand in any order."""
    k, low, high, patterns, degree, first, images = row
    return (degree, first, first + high - low, images, k, low, patterns)
