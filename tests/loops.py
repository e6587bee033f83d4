"""Migrations that end where they begin, made by chance; and one that records of many tags stay at."""

import itertools
import random

from layoutswap.layouts import Layout
from layoutswap.migrations import Migration
from layoutswap.records import records_of
from test_migrations import walks
from test_steps import all_steps


def permuted(kind, layout, many, chance):
    """A migration of so many moves and turns, by chance."""
    possible = [step for step in all_steps(kind, layout) if step[0] in ("move", "turn")]
    return Migration(kind, layout, [chance.choice(possible) for _ in range(many)] if possible else ())


def loop(migration, many, chance):
    """A migration, so many moves and turns behind it, and back."""
    return migration >> permuted(migration.kind, migration.target, many, chance) >> ~migration


def loops(many, seed):
    """Loops of walks of so many steps."""
    chance = random.Random(seed)
    return [loop(migration, chance.randint(0, 4), chance) for migration in walks(many, seed)]


def in_turn(kind, layout, sizes, most=400):
    """The first records of a layout, in order, up to so many tags more than trees."""
    found = []
    for size in range(sizes + max(layout.degree, 0) + 1):
        found.extend(itertools.islice(records_of(kind, layout, size), most - len(found)))
    return found


def opening(patterns, places):
    """The steps that open so many places with as many trees until these are bare holes, and the holes in their order.

    All patterns' tags are the one with the most parts, and this is the kind's only one with any.
    """
    trees, steps = list(patterns), []
    while any(isinstance(tree, tuple) for tree in trees):
        at = next(at for at, tree in enumerate(trees) if isinstance(tree, tuple))
        steps.extend([("turn", len(trees), places, len(trees))] * at)
        trees = trees[at:] + trees[:at]
        steps.append(("open", len(trees), places))
        trees = list(trees[0][1:]) + trees[1:]
    return steps, trees


def sorting(trees, wanted, places):
    """The turns that bring the trees of so many places into another order."""
    steps, trees = [], list(trees)
    for done in range(1, len(trees)):
        # The first tree goes among the last ones, which are in the wanted order.
        ahead = sum(wanted.index(tree) < wanted.index(trees[0]) for tree in trees[len(trees) - done:])
        j = len(trees) - done + ahead
        if j > 1:
            steps.append(("turn", len(trees), places, j))
        trees = trees[1:j] + trees[:1] + trees[j:]
    assert trees == list(wanted)
    return steps


def exchanging(kind, patterns, images, places=1):
    """The migration of so many places that leads trees of some patterns to the images.

    There are as many patterns as images, with as many tags. Records with other trees
    go to such ones; if there are two places, they change the place.
    """
    ahead, trees = opening(patterns, places)
    behind, wanted = opening(images, places)
    layout = Layout([0] * len(patterns) + [places])
    opened = Migration(kind, layout, ahead)
    steps = sorting(trees, wanted, places)
    if places > 1:
        steps += [("move", k, 0, 1) for k in range(opened.target.degree) if opened.target[k]]
    return opened >> Migration(kind, opened.target, steps) >> ~Migration(kind, layout, behind)


def doubling(kind, levels):
    """A migration at which large records stay: in each level all parts of a tree are equal."""
    tag, parts = max(kind, key=lambda variant: variant[1])
    many = iter(range(10 ** 6))
    x, *told = [next(many) for _ in range(parts + 2)]
    patterns, images = [x, (tag, *told[1:])], [(tag, *told[:-1]), x]
    upper, lower = told[0], told[-1]
    # All trees of a level are equal to both upper and lower, of which upper is left in the patterns, lower in the images.
    for _ in range(levels):
        new = [next(many) for _ in range(parts + 1)]
        patterns += [upper, (tag, *new[1:])]
        images += [(tag, *new[:-1]), lower]
        upper, lower = new[0], new[-1]
    patterns.append(upper)
    images.append(lower)
    return patterns, images
