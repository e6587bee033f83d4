"""Trees (points 2 and 4, stage 3 of the interface)."""

import itertools
import math
import unittest

from layoutswap import trees
from layoutswap.errors import NoNumber, NoTree
from layoutswap.trees import how_many, is_tree, numbered_tree, size_of, tree_number, trees_of
from oracle import (
    BINARY, EVEN, FOUR, HALVES, KINDS, MOTZKIN, OTHERS, TURNED, WIDE, all_trees, leaning, same, size_of_tree,
)
from things import DEEP, LARGE

LEAF = ("leaf",)
JOIN = ("join", LEAF, LEAF)
BOUND = 10 ** 40
# So many trees of each kind are compared with those that were made the plain way.
SIZES = {BINARY: 13, TURNED: 13, MOTZKIN: 8, EVEN: 6, WIDE: 4, FOUR: 13, HALVES: 7}


def changed_trees(tree):
    """Things that differ from a tree in one place: a tag, a part, a tuple made a list."""
    tag, *parts = tree
    for other in ("", "Leaf", "lea", "leaff", "leaf ", "leaf\n", None, 1, True, 0, ("leaf",), ["leaf"], {}):
        if other != tag:
            yield (other, *parts)
    yield list(tree)
    yield (*tree, LEAF)
    yield (*tree, None)
    yield tuple(parts)
    yield (tree,)
    for at, part in enumerate(parts):
        for other in (None, True, 0, "", "leaf", (), [], {}, list(part), (part,), [part]):
            yield (tag, *parts[:at], other, *parts[at + 1:])
        yield (tag, *parts[:at], *parts[at + 1:])
        for other in changed_trees(part):
            yield (tag, *parts[:at], other, *parts[at + 1:])


def binary_trees(size):
    """How many trees of a size the kind BINARY has: Catalan's numbers."""
    half = (size - 1) // 2
    return math.comb(2 * half, half) // (half + 1) if size % 2 else 0


def motzkin_trees(most):
    """How many trees of each size up to one the kind MOTZKIN has: Motzkin's numbers."""
    found = [0, 1, 1]
    for size in range(3, most + 1):
        found.append(((2 * size - 1) * found[-1] + (3 * size - 6) * found[-2]) // (size + 1))
    return found


def leaning_with(levels, side, inner):
    """A leaning tree of the kind BINARY with any thing in place of its last leaf."""
    thing = inner
    for _ in range(levels - 1):
        thing = ("join", LEAF, thing) if side else ("join", thing, LEAF)
    return thing


class Trees(unittest.TestCase):
    def test_all_small_trees(self):
        for kind, size in SIZES.items():
            for tree in all_trees(kind, size):
                self.assertIs(is_tree(kind, tree), True)
                self.assertEqual(size_of(tree), size_of_tree(tree))

    def test_one_thing_changed(self):
        for tree in all_trees(BINARY, 7):
            for thing in changed_trees(tree):
                with self.subTest(thing):
                    self.assertIs(is_tree(BINARY, thing), False)

    def test_each_number_of_parts(self):
        leaf = ("a",)
        for tag, parts in WIDE:
            for many in range(7):
                self.assertIs(is_tree(WIDE, (tag,) + (leaf,) * many), many == parts)
                self.assertIs(is_tree(WIDE, ("u", (tag,) + (leaf,) * many)), many == parts)

    def test_tags_of_another_kind(self):
        self.assertIs(is_tree(MOTZKIN, LEAF), False)
        self.assertIs(is_tree(MOTZKIN, ("c", ("a",), LEAF)), False)
        self.assertIs(is_tree((("leaf", 2), ("join", 0)), LEAF), False)
        self.assertIs(is_tree((("leaf", 2), ("join", 0)), ("leaf", ("join",), ("join",))), True)

    def test_other_objects(self):
        for thing in OTHERS + DEEP + LARGE:
            for kind in KINDS:
                with self.subTest(repr(thing)[:60]):
                    self.assertIs(is_tree(kind, thing), False)
            self.assertIs(is_tree(BINARY, ("join", LEAF, thing)), False)
            self.assertIs(is_tree(BINARY, ("join", thing, LEAF)), False)
            self.assertIs(is_tree(BINARY, (thing, LEAF, LEAF)), False)

    def test_leaning_trees(self):
        for kind in KINDS:
            for side in range(4):
                tree = leaning(kind, 390, side)
                most = max(parts for _, parts in kind)
                self.assertIs(is_tree(kind, tree), True)
                self.assertEqual(size_of(tree), 1 + 389 * most)

    def test_leaning_trees_with_one_thing_changed(self):
        for side in (0, 1):
            self.assertIs(is_tree(BINARY, leaning_with(390, side, JOIN)), True)
            for inner in (("lea",), ["leaf"], ("leaf", LEAF), ("join", LEAF), ("join", LEAF, [LEAF]), None, (), 1, "leaf"):
                self.assertIs(is_tree(BINARY, leaning_with(390, side, inner)), False)
            listed = leaning_with(200, side, list(leaning_with(190, side, LEAF)))
            self.assertIs(is_tree(BINARY, listed), False)
            retagged = leaning_with(200, side, ("joim",) + leaning_with(190, side, LEAF)[1:])
            self.assertIs(is_tree(BINARY, retagged), False)

    def test_trees_of_whatever_size(self):
        for levels in (401, 3000, 100000):
            self.assertIs(is_tree(BINARY, leaning(BINARY, levels, 0)), True)
            self.assertEqual(size_of(leaning(BINARY, levels, 1)), 2 * levels - 1)
            self.assertIs(is_tree(BINARY, leaning_with(levels, 1, ("x",))), False)


class Counts(unittest.TestCase):
    def test_how_many_small_ones(self):
        for kind, most in SIZES.items():
            sizes = [size_of_tree(tree) for tree in all_trees(kind, most)]
            for size in range(most + 1):
                self.assertEqual(how_many(kind, size), sizes.count(size))

    def test_how_many_to_the_size_60(self):
        motzkin = motzkin_trees(60)
        for size in range(61):
            self.assertEqual(how_many(BINARY, size), binary_trees(size))
            self.assertEqual(how_many(TURNED, size), binary_trees(size))
            self.assertEqual(how_many(MOTZKIN, size), motzkin[size])

    def test_how_many_by_products_of_counts(self):
        for kind in KINDS:
            counts = [0]
            for size in range(1, 61):
                total = 0
                for _, parts in kind:
                    row = [1] + [0] * size
                    for _ in range(parts):
                        row = [sum(row[a] * counts[n - a] for a in range(n + 1) if n - a < size) for n in range(size)]
                    total += row[size - 1]
                counts.append(total)
            self.assertEqual([how_many(kind, size) for size in range(61)], counts)


class Order(unittest.TestCase):
    def test_trees_in_order(self):
        for kind, most in SIZES.items():
            expected = all_trees(kind, most)
            found = [tree for size in range(most + 1) for tree in trees_of(kind, size)]
            self.assertEqual(found, expected)

    def test_a_list_made_by_hand(self):
        a = ("a",)
        u = ("u", a)
        uu, c = ("u", u), ("c", a, a)
        self.assertEqual(list(trees_of(MOTZKIN, 0)), [])
        self.assertEqual(list(trees_of(MOTZKIN, 1)), [a])
        self.assertEqual(list(trees_of(MOTZKIN, 2)), [u])
        self.assertEqual(list(trees_of(MOTZKIN, 3)), [uu, c])
        four = [("u", uu), ("u", c), ("c", a, u), ("c", u, a)]
        self.assertEqual(list(trees_of(MOTZKIN, 4)), four)
        five = [("u", tree) for tree in four] + [("c", a, uu), ("c", a, c), ("c", u, u), ("c", uu, a), ("c", c, a)]
        self.assertEqual(list(trees_of(MOTZKIN, 5)), five)
        seven = [("join", LEAF, ("join", LEAF, JOIN)), ("join", LEAF, ("join", JOIN, LEAF)), ("join", JOIN, JOIN)]
        seven += [("join", ("join", LEAF, JOIN), LEAF), ("join", ("join", JOIN, LEAF), LEAF)]
        self.assertEqual(list(trees_of(BINARY, 7)), seven)
        self.assertEqual(list(trees_of(TURNED, 7)), seven)

    def test_the_first_ones_come_at_once(self):
        for kind in KINDS:
            for size in (49, 58, 59, 60):
                first = list(itertools.islice(trees_of(kind, size), 40))
                self.assertEqual(len(first), min(40, how_many(kind, size)))
                if first:
                    start = tree_number(kind, first[0])
                    self.assertEqual([tree_number(kind, tree) - start for tree in first], list(range(len(first))))
                    self.assertEqual(start, sum(how_many(kind, less) for less in range(size)))

    def test_they_are_generated(self):
        found = trees_of(BINARY, 3)
        self.assertIs(iter(found), found)
        self.assertEqual(next(found), JOIN)
        self.assertEqual(list(found), [])


class Numbers(unittest.TestCase):
    def test_small_trees_forth_and_back(self):
        for kind, most in SIZES.items():
            for number, tree in enumerate(all_trees(kind, most)):
                self.assertEqual(tree_number(kind, tree), number)
                self.assertEqual(numbered_tree(kind, number), tree)

    def test_great_numbers_forth_and_back(self):
        for kind in KINDS:
            for power in range(41):
                for number in (10 ** power, 10 ** power - 1, 10 ** power // 3, 7 ** power % BOUND):
                    tree = numbered_tree(kind, number)
                    self.assertIs(is_tree(kind, tree), True)
                    self.assertEqual(tree_number(kind, tree), number)

    def test_numbers_go_on_from_size_to_size(self):
        for kind in KINDS:
            ahead = 0
            for size in range(40):
                many = how_many(kind, size)
                if many:
                    self.assertEqual(size_of(numbered_tree(kind, ahead)), size)
                    self.assertEqual(size_of(numbered_tree(kind, ahead + many - 1)), size)
                ahead += many

    def test_the_number_of_a_deep_tree(self):
        # Of all trees of the kind with 2n - 1 tags the one that leans to the right is the first one.
        for levels in (2, 5, 150, 200):
            right, left = leaning(BINARY, levels, 1), leaning(BINARY, levels, 0)
            ahead = sum(binary_trees(size) for size in range(2 * levels - 1))
            self.assertEqual(tree_number(BINARY, right), ahead)
            self.assertEqual(tree_number(BINARY, left), ahead + binary_trees(2 * levels - 1) - 1)
        chain = ("a",)
        for _ in range(399):
            chain = ("u", chain)
        self.assertEqual(tree_number(MOTZKIN, chain), sum(motzkin_trees(399)))

    def test_objects_that_are_no_trees(self):
        for thing in OTHERS + DEEP + LARGE + (("join", LEAF), [LEAF], list(LEAF), ("join", LEAF, ["leaf"])):
            self.assertRaises(NoTree, tree_number, BINARY, thing)
        self.assertRaises(NoTree, tree_number, BINARY, leaning_with(390, 0, ("lea",)))
        self.assertRaises(NoTree, tree_number, MOTZKIN, JOIN)

    def test_objects_that_are_no_numbers(self):
        things = [thing for thing in OTHERS + DEEP + LARGE if type(thing) is not int or not 0 <= thing <= BOUND]
        for thing in things + [True, False, -1, BOUND + 1, 10 ** 49, "1", 1.0, [0], (0,)]:
            self.assertRaises(NoNumber, numbered_tree, BINARY, thing)
        for kind in KINDS:
            self.assertEqual(tree_number(kind, numbered_tree(kind, BOUND)), BOUND)
            self.assertRaises(NoNumber, numbered_tree, kind, BOUND + 1)


class TheInterface(unittest.TestCase):
    def test_the_example(self):
        kind, leaf = (("leaf", 0), ("join", 2)), ("leaf",)
        join = ("join", leaf, leaf)
        told = [[how_many(kind, size) for size in range(8)], is_tree(kind, join), is_tree(kind, ("join", leaf))]
        self.assertEqual(told, [[0, 1, 0, 1, 0, 2, 0, 5], True, False])
        self.assertEqual(tree_number(kind, ("join", join, leaf)), 3)
        self.assertTrue(same(numbered_tree(kind, 2), ("join", ("leaf",), ("join", ("leaf",), ("leaf",)))))

    def test_each_function_is_defined_in_its_file(self):
        for name in ("is_tree", "size_of", "how_many", "trees_of", "tree_number", "numbered_tree"):
            self.assertEqual(getattr(trees, name).__module__, "layoutswap.trees")


if __name__ == "__main__":
    unittest.main()
