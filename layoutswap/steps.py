"""Steps: where each of them leads a layout and its records, and how they are led back."""

from layoutswap.errors import NoRecord, NoStep
from layoutswap.kinds import polynomial
from layoutswap.layouts import Layout
from layoutswap.names import is_integer
from layoutswap.records import is_record

# How many parts a step has, its word counted.
LENGTHS = {"open": 3, "close": 3, "move": 4, "turn": 4}


def has_form(thing):
    """Tell whether any object is a word of a step and as many integers as this one needs, in a tuple."""
    if not isinstance(thing, tuple) or len(thing) == 0 or not isinstance(thing[0], str):
        return False
    return LENGTHS.get(thing[0]) == len(thing) and all([is_integer(number) for number in thing[1:]])


def is_step(kind, layout, thing):
    """Tell whether any object is a step at the layout, also if it leads to a degree above the bound."""
    if not has_form(thing):
        return False
    word, k = thing[0], thing[1]
    if word == "move":
        return thing[2] >= 0 and thing[3] >= 1 and thing[2] + thing[3] <= layout[k]
    n = thing[2]
    if k < 1 or n < 1:
        return False
    if word == "close":
        return all([n * many <= layout[k - 1 + parts] for parts, many in enumerate(polynomial(kind))])
    return n <= layout[k] and (word == "open" or 2 <= thing[3] <= k)


def changed(kind, layout, step):
    """Return the layout behind a step at a layout."""
    word, k, n = step[:3]
    if word == "move" or word == "turn":
        return layout
    places = n if word == "open" else -n
    terms = polynomial(kind)
    many = max(len(layout.factors), k + len(terms))
    factors = [layout[j] for j in range(many)]
    factors[k] = factors[k] - places
    for parts, many in enumerate(terms):
        factors[k - 1 + parts] = factors[k - 1 + parts] + places * many
    return Layout(factors)


def tags_with(kind, parts):
    """Return the list of the tags with so many parts, in order."""
    return [tag for tag, many in kind if many == parts]


def opened(kind, layout, k, n, record):
    """Return the record to which opening the last n places with k trees leads one of this layout."""
    many, index, trees = record
    kept = layout[k] - n
    if many != k or index < kept:
        return record
    first = trees[0]
    parts = len(first) - 1
    # Places with k trees have gone out already where the new ones of a variant with one part come.
    start = kept if parts == 1 else layout[k - 1 + parts]
    start = start + n * tags_with(kind, parts).index(first[0])
    return (k - 1 + parts, start + index - kept, first[1:] + trees[1:])


def closed(kind, layout, k, n, record):
    """Return the record to which closing n places each into those with k trees leads one of this layout."""
    many, index, trees = record
    parts = many - k + 1
    tags = tags_with(kind, parts)
    # With no tags this is the number of all places, so no index is as great.
    start = layout[many] - n * len(tags)
    if index < start:
        return record
    at, place = divmod(index - start, n)
    kept = start if parts == 1 else layout[k] - n * len(tags_with(kind, 1))
    return (k, kept + place, ((tags[at],) + trees[:parts],) + trees[parts:])


def moved(layout, step, record):
    """Return the record to which a move leads one of this layout."""
    _, k, start, n = step
    many, index, trees = record
    if many != k or index < start:
        return record
    return (k, index - n if index >= start + n else index - start + layout[k] - n, trees)


def moved_back(layout, step, record):
    """Return the record that a move leads to one of this layout."""
    _, k, start, n = step
    many, index, trees = record
    if many != k or index < start:
        return record
    behind = layout[k] - n
    return (k, index + n if index < behind else index - behind + start, trees)


def turned(layout, step, record):
    """Return the record to which a turn leads one of this layout."""
    _, k, n, j = step
    many, index, trees = record
    if many != k or index < layout[k] - n:
        return record
    return (k, index, trees[1:j] + trees[:1] + trees[j:])


def turned_back(layout, step, record):
    """Return the record that a turn leads to one of this layout."""
    _, k, n, j = step
    many, index, trees = record
    if many != k or index < layout[k] - n:
        return record
    return (k, index, trees[j - 1:j] + trees[:j - 1] + trees[j:])


def led_on(kind, layout, step, record):
    """Return the record to which a step at a layout leads a record of it; nothing is checked."""
    if step[0] == "open":
        return opened(kind, layout, step[1], step[2], record)
    if step[0] == "close":
        return closed(kind, layout, step[1], step[2], record)
    return moved(layout, step, record) if step[0] == "move" else turned(layout, step, record)


def led_back(kind, behind, step, record):
    """Return the record that a step leads to a record of the layout behind it; nothing is checked."""
    if step[0] == "open":
        return closed(kind, behind, step[1], step[2], record)
    if step[0] == "close":
        return opened(kind, behind, step[1], step[2], record)
    return moved_back(behind, step, record) if step[0] == "move" else turned_back(behind, step, record)


def layout_behind(kind, layout, step):
    """Return the layout behind a step."""
    if not is_step(kind, layout, step):
        raise NoStep(0)
    return changed(kind, layout, step)


def record_behind(kind, layout, step, record):
    """Return the record to which a step leads a record of the layout."""
    layout_behind(kind, layout, step)
    if not is_record(kind, layout, record):
        raise NoRecord("this is no record of the layout")
    return led_on(kind, layout, step, record)


def record_ahead(kind, layout, step, record):
    """Return the record of the layout that a step leads to a record of the layout behind it."""
    behind = layout_behind(kind, layout, step)
    if not is_record(kind, behind, record):
        raise NoRecord("this is no record of the layout behind the step")
    return led_back(kind, behind, step, record)
