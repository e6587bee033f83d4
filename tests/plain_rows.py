"""Rows by the words of point 14, done in the plainest way: place by place, with functions that call themselves."""

import itertools

from layoutswap.layouts import Layout
from layoutswap.records import records_of
from layoutswap.steps import layout_behind
from test_steps import done, rooms


def holes_in(pattern):
    """The holes of a pattern, from the left."""
    return [pattern] if isinstance(pattern, int) else [hole for part in pattern[1:] for hole in holes_in(part)]


def filled(pattern, worth):
    """A pattern with what a dict has for its holes."""
    if isinstance(pattern, int):
        return worth[pattern]
    return (pattern[0], *(filled(part, worth) for part in pattern[1:]))


def fit(pattern, tree):
    """What a tree has in a pattern's holes, or None."""
    if isinstance(pattern, int):
        return {pattern: tree}
    if pattern[0] != tree[0]:
        return None
    found = {}
    for part, inner in zip(pattern[1:], tree[1:]):
        told = fit(part, inner)
        if told is None:
            return None
        found.update(told)
    return found


def image_by(row, record):
    """Where a row leads a record, or None if it does not hold for it."""
    k, low, high, patterns, degree, first, images = row
    if record[0] != k or not low <= record[1] <= high:
        return None
    found = fit(("all", *patterns), ("all", *record[2]))
    return None if found is None else (degree, first + record[1] - low, tuple(filled(image, found) for image in images))


def order_of_pattern(kind, pattern):
    """What patterns are ordered by: a hole ahead of a tag, tags by the kind's order, then their parts."""
    if isinstance(pattern, int):
        return (0,)
    tags = [tag for tag, _ in kind]
    return (1, tags.index(pattern[0]), tuple(order_of_pattern(kind, part) for part in pattern[1:]))


def order_of_row(kind, row):
    return (row[0], row[1], tuple(order_of_pattern(kind, pattern) for pattern in row[3]))


def where_to(kind, layout, step):
    """For each place (k, i): what happens to it, and the new places by the tag of the first tree (None: by no tag)."""
    places = rooms(layout.factors)
    done(kind, places, step)
    found = {}
    for k, row in places.items():
        for i, (word, *told) in enumerate(row):
            if word == "opened":
                found.setdefault(told[2][1:], ("opened", {}))[1][told[0]] = (k, i)
            elif word == "closed":
                for tag, place in told[0].items():
                    found[place[1:]] = (tag, {None: (k, i)})
            elif word == "turned":
                found[told[1][1:]] = ("turned", {None: (k, i)})
            else:
                found[tuple(told)] = ("at", {None: (k, i)})
    if step[0] == "move":
        _, k, start, n = step
        for i in range(layout[k]):
            found[k, i] = ("ahead" if i < start else "moved" if i < start + n else "behind", found[k, i][1])
    return found


def led_images(kind, step, word, images):
    """The images of a row behind a step; with open the first one has a tag."""
    if word == "opened":
        return images[0][1:] + images[1:]
    if word == "turned":
        return images[1:step[3]] + images[:1] + images[step[3]:]
    if word in dict(kind):
        parts = dict(kind)[word]
        return ((word, *images[:parts]), *images[parts:])
    return images


def numbered(row):
    """A row with its holes numbered anew."""
    k, low, high, patterns, degree, first, images = row
    holes = [hole for pattern in patterns for hole in holes_in(pattern)]
    worth = {hole: at for at, hole in enumerate(holes)}
    return (k, low, high, tuple(filled(pattern, worth) for pattern in patterns), degree, first,
            tuple(filled(image, worth) for image in images))


def variants(kind, row):
    """The rows that come from a row with a hole as its first image by a tag in its place."""
    k, low, high, patterns, degree, first, images = row
    for tag, parts in kind:
        worth = {hole: hole for pattern in patterns for hole in holes_in(pattern)}
        worth[images[0]] = (tag, *range(1000, 1000 + parts))
        yield numbered((k, low, high, tuple(filled(pattern, worth) for pattern in patterns), degree, first,
                        tuple(filled(image, worth) for image in images)))


def rows_at(kind, layout, step, rows):
    """The rows behind a step."""
    to = where_to(kind, layout, step)
    cut = []
    for k, low, high, patterns, degree, first, images in rows:
        start = low
        for i in range(low, high + 1):
            if i == high or to[degree, first + i + 1 - low][0] != to[degree, first + i - low][0]:
                cut.append((k, start, i, patterns, degree, first + start - low, images))
                start = i + 1
    found = []
    for row in cut:
        word, new = to[row[4], row[5]]
        split = list(variants(kind, row)) if word == "opened" and isinstance(row[6][0], int) else [row]
        for k, low, high, patterns, _, _, images in split:
            degree, first = new[images[0][0] if word == "opened" else None]
            found.append((k, low, high, patterns, degree, first, led_images(kind, step, word, images)))
    return found


def plain_rows(kind, factors, steps):
    """The rows of a migration, in order."""
    layout = Layout(factors)
    holes = [tuple(range(k)) for k in range(len(factors))]
    rows = [(k, 0, factor - 1, holes[k], k, 0, holes[k]) for k, factor in enumerate(factors) if factor]
    for step in steps:
        rows = rows_at(kind, layout, step, rows)
        layout = layout_behind(kind, layout, step)
    return sorted(rows, key=lambda row: order_of_row(kind, row))


def records_up_to(kind, factors, size, most=300):
    """The first records up to so many tags more than the smallest ones of the most trees, in order."""
    found = []
    for whole in range(size + len(factors)):
        found.extend(itertools.islice(records_of(kind, Layout(factors), whole), most - len(found)))
    return found
