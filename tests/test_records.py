"""Records (points 2 and 6, stage 4 of the interface)."""

import itertools
import unittest

from layoutswap import records
from layoutswap.errors import NoNumber, NoRecord
from layoutswap.layouts import Layout
from layoutswap.records import (
    from_product, from_sum, how_many_records, into_product, into_sum, is_record, numbered_record, record_number,
    records_of, size_of_record,
)
from layoutswap.trees import how_many, numbered_tree
from oracle import (
    BINARY, EVEN, FOUR, HALVES, KINDS, MOTZKIN, OTHERS, WIDE, all_records, leaning, order_of_record, same,
)
from things import DEEP, LARGE

LEAF = ("leaf",)
JOIN = ("join", LEAF, LEAF)
BOUND = 10 ** 40
MANY = Layout([10 ** 9] * 41)
# Kinds, factors, and the size up to which the records are compared with those that were made the plain way.
CASES = (
    (BINARY, (1, 0, 2), 8), (BINARY, (0, 2, 1, 1), 6), (BINARY, (3,), 3), (BINARY, (), 3), (BINARY, (0, 0, 0, 0, 0, 2), 9),
    (MOTZKIN, (2, 1, 1), 5), (EVEN, (1, 2, 1), 4), (WIDE, (0, 1, 2), 3), (FOUR, (2, 0, 1), 10), (HALVES, (1, 1, 1, 1), 5),
)


class Records(unittest.TestCase):
    def test_all_small_records(self):
        for kind, factors, most in CASES:
            for record in all_records(kind, factors, most):
                self.assertIs(is_record(kind, Layout(factors), record), True)
                self.assertEqual(size_of_record(record), order_of_record(kind, record)[0])

    def test_indexes_and_numbers_of_trees(self):
        layout = Layout((2, 0, 3))
        for k, i in itertools.product(range(-2, 5), range(-2, 6)):
            for many in range(5):
                told = k == many and 0 <= i < layout[k]
                self.assertIs(is_record(BINARY, layout, (k, i, (LEAF,) * many)), told)

    def test_one_thing_changed(self):
        layout = Layout((1, 2, 2))
        self.assertIs(is_record(BINARY, layout, (2, 1, (JOIN, LEAF))), True)
        self.assertIs(is_record(BINARY, layout, (1, 1, (LEAF,))), True)
        things = [
            [2, 1, (JOIN, LEAF)], (2, 1, [JOIN, LEAF]), (2, 1, (JOIN, ["leaf"])), (2, 1, (JOIN, ("lea",))), (2, 1),
            (2, 1, (JOIN,)), (2, 1, (JOIN, LEAF, LEAF)), (2, 1, (JOIN, LEAF), ()), (2, True, (JOIN, LEAF)),
            (True, 1, (LEAF,)), (1, True, (LEAF,)), (1, False, (LEAF,)), (False, 0, ()), (0, False, ()), (0, 0, []),
            (2, "1", (JOIN, LEAF)), ("2", 1, (JOIN, LEAF)), (2, None, (JOIN, LEAF)), (None, 1, (JOIN, LEAF)),
            (2, 1, None), (2, 1, JOIN), (2, 1, "ab"), (1, 0, LEAF), (1, 0, ("leaf",)), (1, 0, {LEAF: 1}), (2, 1, (JOIN, None)),
            (2, 1, (("join", LEAF), LEAF)), (2, 2, (JOIN, LEAF)), (2, -1, (JOIN, LEAF)), (3, 0, (LEAF,) * 3), (-1, 0, ()),
            (1, 10 ** 49, (LEAF,)), (10 ** 49, 0, ()), (10 ** 49, 0, (LEAF,)), (2, 1.0, (JOIN, LEAF)),
        ]
        for thing in things:
            with self.subTest(thing):
                self.assertIs(is_record(BINARY, layout, thing), False)
                self.assertRaises(NoRecord, record_number, BINARY, layout, thing)

    def test_other_objects(self):
        for layout in (Layout((1,)), Layout((5, 5, 5)), MANY, Layout(())):
            for thing in DEEP + LARGE + OTHERS:
                told = thing == (0, 0, ()) and layout[0] > 0
                with self.subTest(repr(thing)[:60]):
                    self.assertIs(is_record(BINARY, layout, thing), told)
                    self.assertIs(is_record(BINARY, layout, (1, 0, (thing,))), False)
                    self.assertIs(is_record(BINARY, layout, (2, 0, (LEAF, thing))), False)
                    one = type(thing) is int and thing == 1
                    self.assertIs(is_record(BINARY, layout, (thing, 0, (LEAF,))), one and layout[1] > 0)
                    self.assertRaises(NoRecord, record_number, BINARY, layout, (1, 0, (thing,)))

    def test_records_of_great_trees(self):
        for kind in KINDS:
            trees = tuple(leaning(kind, 390, side) for side in range(40))
            self.assertIs(is_record(kind, MANY, (40, 10 ** 9 - 1, trees)), True)
            self.assertIs(is_record(kind, MANY, (40, 10 ** 9, trees)), False)
            self.assertEqual(size_of_record((40, 0, trees)), 40 * (1 + 389 * max(parts for _, parts in kind)))
        self.assertIs(is_record(BINARY, Layout((0, 1)), (1, 0, (leaning(BINARY, 5000, 0),))), True)


class Counts(unittest.TestCase):
    def test_how_many_small_ones(self):
        for kind, factors, most in CASES:
            sizes = [order_of_record(kind, record)[0] for record in all_records(kind, factors, most)]
            for size in range(most + 1):
                self.assertEqual(how_many_records(kind, Layout(factors), size), sizes.count(size))

    def test_how_many_to_the_size_60(self):
        for kind in KINDS:
            trees = [how_many(kind, size) for size in range(61)]
            rows = [[1] + [0] * 60]
            for _ in range(40):
                rows.append([sum(trees[a] * rows[-1][size - a] for a in range(size + 1)) for size in range(61)])
            for factors in ([10 ** 9] * 41, [0] * 40 + [3], [7, 0, 1, 2], [5], []):
                layout = Layout(factors)
                for size in (0, 1, 2, 39, 40, 41, 59, 60):
                    told = sum(factor * rows[k][size] for k, factor in enumerate(factors))
                    self.assertEqual(how_many_records(kind, layout, size), told)


class Order(unittest.TestCase):
    def test_records_in_order(self):
        for kind, factors, most in CASES:
            layout = Layout(factors)
            found = [record for size in range(most + 1) for record in records_of(kind, layout, size)]
            self.assertEqual(found, all_records(kind, factors, most))

    def test_a_list_made_by_hand(self):
        layout = Layout((1, 1, 2))
        self.assertEqual(list(records_of(BINARY, layout, 0)), [(0, 0, ())])
        self.assertEqual(list(records_of(BINARY, layout, 1)), [(1, 0, (LEAF,))])
        self.assertEqual(list(records_of(BINARY, layout, 2)), [(2, 0, (LEAF, LEAF)), (2, 1, (LEAF, LEAF))])
        self.assertEqual(list(records_of(BINARY, layout, 3)), [(1, 0, (JOIN,))])
        four = [(LEAF, JOIN), (JOIN, LEAF)]
        self.assertEqual(list(records_of(BINARY, layout, 4)), [(2, i, trees) for i in (0, 1) for trees in four])
        five = [("join", LEAF, JOIN), ("join", JOIN, LEAF)]
        self.assertEqual(list(records_of(BINARY, layout, 5)), [(1, 0, (tree,)) for tree in five])
        six = [(LEAF, five[0]), (LEAF, five[1]), (JOIN, JOIN), (five[0], LEAF), (five[1], LEAF)]
        self.assertEqual(list(records_of(BINARY, layout, 6)), [(2, i, trees) for i in (0, 1) for trees in six])

    def test_the_first_ones_of_very_many_come_at_once(self):
        for kind in KINDS:
            found = list(itertools.islice(records_of(kind, MANY, 60), 30))
            start = sum(how_many_records(kind, MANY, size) for size in range(60))
            self.assertEqual([record_number(kind, MANY, record) - start for record in found], list(range(len(found))))
        self.assertEqual(list(records_of(BINARY, Layout((10 ** 49,)), 1)), [])
        self.assertEqual(list(records_of(BINARY, Layout((10 ** 49, 1)), 2)), [])

    def test_they_are_generated(self):
        found = records_of(BINARY, Layout((0, 1)), 3)
        self.assertIs(iter(found), found)
        self.assertEqual(list(found), [(1, 0, (JOIN,))])


class Numbers(unittest.TestCase):
    def test_small_records_forth_and_back(self):
        for kind, factors, most in CASES:
            layout = Layout(factors)
            for number, record in enumerate(all_records(kind, factors, most)):
                self.assertEqual(record_number(kind, layout, record), number)
                self.assertEqual(numbered_record(kind, layout, number), record)

    def test_great_numbers_forth_and_back(self):
        for kind in KINDS:
            for factors in ([0, 1], [3, 0, 2], [10 ** 9] * 41, [0] * 40 + [10 ** 9], [0] * 20 + [1]):
                layout = Layout(factors)
                for number in (0, 1, 10 ** 9 - 1, 10 ** 9, 10 ** 18 + 7, 3 ** 80, BOUND - 1, BOUND):
                    record = numbered_record(kind, layout, number)
                    self.assertIs(is_record(kind, layout, record), True)
                    self.assertEqual(record_number(kind, layout, record), number)

    def test_records_of_constant_layouts(self):
        for total in (1, 2, 3, 10 ** 9, BOUND, BOUND + 1):
            layout = Layout((total,))
            for number in (0, 1, 2, 3, 10 ** 9 - 1, 10 ** 9, BOUND - 1, BOUND):
                record = (0, number, ()) if number < total else None
                self.assertEqual(numbered_record(BINARY, layout, number), record)
            self.assertEqual(record_number(BINARY, layout, (0, total - 1, ())), total - 1)
        self.assertIsNone(numbered_record(BINARY, Layout(()), 0))
        self.assertIsNone(numbered_record(BINARY, Layout(()), BOUND))

    def test_the_number_of_a_great_record(self):
        for levels in (150, 250):
            tree = leaning(BINARY, levels, 1)
            number = record_number(BINARY, Layout((5, 2)), (1, 1, (tree,)))
            # Ahead of it are the records without trees, both places of all smaller trees and the first place's trees.
            sizes = range(1, 2 * levels - 1, 2)
            counts = [1]
            for n in range(levels):
                counts.append(counts[-1] * 2 * (2 * n + 1) // (n + 2))
            self.assertEqual(number, 5 + 2 * sum(counts[:len(sizes)]) + counts[levels - 1])

    def test_objects_that_are_no_numbers(self):
        for layout in (Layout((2,)), Layout((0, 1)), Layout(())):
            things = [thing for thing in OTHERS + DEEP + LARGE if type(thing) is not int or not 0 <= thing <= BOUND]
            for thing in things + [True, False, -1, BOUND + 1, 10 ** 49, "1", [0], 1.0]:
                self.assertRaises(NoNumber, numbered_record, BINARY, layout, thing)


class Sums(unittest.TestCase):
    def test_all_records_of_two_small_layouts(self):
        for kind, one, other, most in ((BINARY, (1, 0, 2), (2, 1, 1), 5), (MOTZKIN, (0, 2), (3, 1), 4), (EVEN, (2,), (1, 1), 2)):
            first, second = Layout(one), Layout(other)
            expected = all_records(kind, (first + second).factors, most)
            found = [(0, record) for record in all_records(kind, one, most)]
            found += [(1, record) for record in all_records(kind, other, most)]
            images = [into_sum(first, second, side, record) for side, record in found]
            self.assertEqual(sorted(images), sorted(expected))
            self.assertEqual([from_sum(first, second, image) for image in images], found)
            for (side, (k, i, trees)), image in zip(found, images):
                self.assertEqual(image, (k, i + side * first[k], trees))

    def test_sums_of_great_layouts(self):
        layout = Layout([10 ** 9] * 41)
        trees = tuple(numbered_tree(BINARY, number) for number in range(40))
        record = (40, 10 ** 9 - 1, trees)
        self.assertEqual(into_sum(layout, layout, 0, record), record)
        self.assertEqual(into_sum(layout, layout, 1, record), (40, 2 * 10 ** 9 - 1, trees))
        self.assertEqual(from_sum(layout, layout, (40, 10 ** 9, trees)), (1, (40, 0, trees)))
        self.assertEqual(from_sum(layout, layout, record), (0, record))

    def test_the_trees_may_be_any_tuples(self):
        trees = (("x", 1), (), ("anything",))
        layout = Layout((0, 0, 0, 2))
        self.assertEqual(into_sum(layout, layout, 1, (3, 0, trees)), (3, 2, trees))
        self.assertEqual(from_sum(layout, layout, (3, 3, trees)), (1, (3, 1, trees)))
        deep = leaning(BINARY, 3000, 0)
        self.assertTrue(same(from_sum(layout, layout, into_sum(layout, layout, 1, (3, 1, (deep,) * 3))), (1, (3, 1, (deep,) * 3))))


class Products(unittest.TestCase):
    def pairs(self, kind, one, other, most):
        """All pairs of records of two layouts, in the order in which point 6 counts those with as many trees."""
        first, second = all_records(kind, one, most), all_records(kind, other, most)
        found = [(a, b) for a in first for b in second]
        return sorted(found, key=lambda pair: (pair[0][0] + pair[1][0], pair[0][0], pair[0][1], pair[1][1]))

    def test_all_records_of_two_small_layouts(self):
        cases = ((BINARY, (2, 1, 1), (1, 0, 3), 3), (BINARY, (0, 2, 1), (2, 1), 4), (EVEN, (1, 1), (0, 2), 2), (BINARY, (3,), (2,), 0))
        for kind, one, other, most in cases:
            first, second = Layout(one), Layout(other)
            pairs = self.pairs(kind, one, other, most)
            images = [into_product(first, second, a, b) for a, b in pairs]
            self.assertEqual([from_product(first, second, image) for image in images], pairs)
            self.assertEqual(len(set(images)), len(images))
            for (a, b), (k, i, trees) in zip(pairs, images):
                self.assertEqual((k, trees), (a[0] + b[0], a[2] + b[2]))
                self.assertIs(is_record(kind, first * second, (k, i, trees)), True)
            small = all_records(kind, (first * second).factors, most)
            self.assertLessEqual(set(small), set(images))

    def test_the_indexes_count_the_pairs_of_places(self):
        for one, other in (((2, 1), (1, 0, 3)), ((1, 2, 1), (2, 1, 1)), ((0, 3), (4, 0, 1)), ((2,), (5,)), ((1, 1, 1), (0, 0, 2))):
            first, second = Layout(one), Layout(other)
            places = [(j, i, k, m) for j, a in enumerate(one) for i in range(a) for k, b in enumerate(other) for m in range(b)]
            counted = {}
            for j, i, k, m in sorted(places, key=lambda place: (place[0], place[1], place[3])):
                number = counted.get(j + k, 0)
                image = into_product(first, second, (j, i, (LEAF,) * j), (k, m, (JOIN,) * k))
                self.assertEqual(image, (j + k, number, (LEAF,) * j + (JOIN,) * k))
                self.assertEqual(from_product(first, second, image), ((j, i, (LEAF,) * j), (k, m, (JOIN,) * k)))
                counted[j + k] = number + 1
            self.assertEqual([counted.get(k, 0) for k in range(len((first * second).factors))], list((first * second).factors))

    def test_products_of_great_layouts(self):
        layout = Layout([10 ** 9] * 21)
        trees = tuple(numbered_tree(BINARY, number) for number in range(40))
        for index in (0, 1, 10 ** 18 - 1, 10 ** 18, 21 * 10 ** 18 // 2):
            for k in (0, 1, 20, 21, 40):
                if index < (layout * layout)[k]:
                    first, second = from_product(layout, layout, (k, index, trees[:k]))
                    self.assertIs(is_record(BINARY, layout, first) and is_record(BINARY, layout, second), True)
                    self.assertEqual(into_product(layout, layout, first, second), (k, index, trees[:k]))

    def test_the_trees_may_be_any_tuples(self):
        one, other = Layout((0, 2)), Layout((0, 0, 3))
        record = into_product(one, other, (1, 1, ((),)), (2, 2, (("x",), (1, 2))))
        self.assertEqual(record, (3, 5, ((), ("x",), (1, 2))))
        self.assertEqual(from_product(one, other, record), ((1, 1, ((),)), (2, 2, (("x",), (1, 2)))))


class TheInterface(unittest.TestCase):
    def test_the_example(self):
        kind, leaf = (("leaf", 0), ("join", 2)), ("leaf",)
        join, some, more, many = ("join", leaf, leaf), Layout((1, 0, 2)), Layout((2, 1)), Layout((1, 0, 3))
        told = [record_number(kind, some, (2, 1, (leaf, join))), numbered_record(kind, some, 2)]
        self.assertEqual(told, [5, (2, 1, (("leaf",), ("leaf",)))])
        self.assertIsNone(numbered_record(kind, Layout((3,)), 3))
        self.assertEqual(into_sum(some, Layout((0, 0, 1)), 1, (2, 0, (leaf, leaf))), (2, 2, (("leaf",), ("leaf",))))
        self.assertEqual(into_product(more, many, (0, 1, ()), (2, 2, (leaf, join)))[:2], (2, 5))
        self.assertEqual(from_product(more, many, (3, 1, (join, leaf, leaf))), ((1, 0, (join,)), (2, 1, (leaf, leaf))))

    def test_each_function_is_defined_in_its_file(self):
        names = "is_record size_of_record how_many_records records_of record_number numbered_record into_sum from_sum"
        for name in names.split() + ["into_product", "from_product"]:
            self.assertEqual(getattr(records, name).__module__, "layoutswap.records")


if __name__ == "__main__":
    unittest.main()
