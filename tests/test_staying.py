"""The records that stay at a migration (points 2 and 13, stage 9 of the interface)."""

import unittest
from unittest import mock

from layoutswap import staying as staying_file
from layoutswap.errors import Mismatch, TooMany
from layoutswap.layouts import Layout
from layoutswap.migrations import Migration
from layoutswap.records import how_many_records, is_record, records_of, size_of_record
from layoutswap.rows import rows
from layoutswap.staying import first_staying, staying
from layoutswap.trees import how_many
from loops import doubling, exchanging, loops
from oracle import BINARY, EVEN, FOUR, KINDS, MOTZKIN, TURNED, same
from test_rows import chain, cuts

LEAF = ("leaf",)
JOIN = ("join", LEAF, LEAF)
T = Layout((0, 1))


class Case(unittest.TestCase):
    def check(self, migration, sizes):
        """Compare with records counted one by one."""
        first = None
        for size in range(sizes + 1):
            stayed = [record for record in records_of(migration.kind, migration.source, size) if migration(record) == record]
            self.assertEqual(staying(migration, size), len(stayed))
            first = first or (stayed and stayed[0]) or None
        found = first_staying(migration)
        if first is not None:
            self.assertEqual(found, first)
        elif found is not None:
            self.assertGreater(size_of_record(found), sizes)
            self.assertTrue(same(migration(found), found))
        return found

    def assert_too_many(self, call, *arguments):
        with self.assertRaises(TooMany) as caught:
            call(*arguments)
        self.assertEqual(caught.exception.limit, 400)


class Staying(Case):
    def test_loops(self):
        told = []
        for many in (0, 1, 2, 4):
            for migration in loops(many, 60 + many):
                sizes = {2: 9, 3: 6}.get(len(migration.kind), 3)
                if how_many_records(migration.kind, migration.source, sizes) < 5000:
                    told.append(self.check(migration, sizes))
        self.assertGreater(len(told), 90)
        self.assertTrue(None in told)
        self.assertGreater(len({size_of_record(record) for record in told if record}), 2)

    def test_all_stay(self):
        for kind in KINDS:
            still = Migration.nothing(kind, Layout((2, 1, 3)))
            for size in (0, 1, 2, 10, 59, 60):
                self.assertEqual(staying(still, size), how_many_records(kind, still.source, size))
            self.assertEqual(first_staying(still), (0, 0, ()))
        empty = Migration.nothing(BINARY, Layout(()))
        self.assertEqual((staying(empty, 0), staying(empty, 60), first_staying(empty)), (0, 0, None))

    def test_none_stays(self):
        moved = Migration(BINARY, Layout((2, 2)), (("move", 0, 0, 1), ("move", 1, 0, 1)))
        self.assertEqual([staying(moved, size) for size in range(10)] + [first_staying(moved)], [0] * 10 + [None])
        # A tree cannot be one of its own parts.
        into = exchanging(BINARY, (0, ("join", 1, 2)), (("join", 1, 0), 2), 2)
        self.assertEqual([staying(into, size) for size in (1, 2, 4, 60)] + [first_staying(into)], [0] * 4 + [None])

    def test_different_tags_and_places(self):
        opened = Migration(EVEN, T, (("open", 1, 1),))
        swapped = opened >> Migration(EVEN, opened.target, (("move", 0, 0, 1),)) >> ~opened
        self.assertEqual(swapped((1, 0, (("a",),))), (1, 0, (("b",),)))
        # Both trees of one tag change places, all others stay.
        for size in range(7):
            self.assertEqual(staying(swapped, size), how_many(EVEN, size) - (2 if size == 1 else 0))
        self.assertEqual(first_staying(swapped), (1, 0, (("u", ("a",)),)))

    def test_equal_trees(self):
        for k in (2, 3, 5):
            layout = Layout([0] * k + [2])
            turned = Migration(BINARY, layout, (("turn", k, 1, k),))
            for size in range(13):
                # One place stays as it is; in the other one all trees are equal.
                equal = how_many(BINARY, size // k) if size % k == 0 else 0
                self.assertEqual(staying(turned, size), how_many_records(BINARY, layout, size) // 2 + equal)
        twice = Migration(BINARY, Layout((0, 0, 1)), (("turn", 2, 1, 2),))
        for size in (56, 58, 60):
            self.assertEqual(staying(twice, size), how_many(BINARY, size // 2))

    def test_trees_in_trees(self):
        cases = [
            ((0, ("join", 1, 2)), (1, ("join", 2, 0)), 8), ((0, ("join", 1, 2)), (("join", 1, 2), 0), 8),
            ((("join", 0, 1), ("join", 2, 3)), (("join", 2, 1), ("join", 0, 3)), 10),
            ((("join", ("join", 0, 1), 2), 3), (3, ("join", 2, ("join", 1, 0))), 12),
            ((("join", 0, ("join", 1, 2)),), (("join", ("join", 0, 1), 2),), 9),
            ((0, ("join", 1, 2), 3), (("join", 3, 1), 2, 0), 9),
        ]
        for patterns, images, sizes in cases:
            migration = exchanging(BINARY, patterns, images)
            for power in (1, 2, 3):
                self.check(migration ** power, sizes)

    def test_the_first_of_several_rows(self):
        # Two places, in both of which a smallest record stays: the first one of them.
        layout = Layout((0, 0, 2, 2))
        turned = Migration(BINARY, layout, (("turn", 2, 2, 2), ("turn", 3, 2, 3)))
        self.assertEqual(first_staying(turned), (2, 0, (LEAF, LEAF)))
        moved = turned >> Migration(BINARY, layout, (("move", 2, 0, 1),))
        self.assertEqual(first_staying(moved), (3, 0, (LEAF, LEAF, LEAF)))
        # A place with more trees stays ahead of one with fewer trees, if these have to be greater.
        one = exchanging(BINARY, (0, ("join", 1, 2)), (("join", 1, 2), 0), 2)
        self.assertEqual(self.check(one, 6), (2, 0, (JOIN, JOIN)))
        for k, record in ((3, (3, 0, (LEAF,) * 3)), (5, (5, 0, (LEAF,) * 5)), (6, (2, 0, (JOIN, JOIN))), (7, (2, 0, (JOIN, JOIN)))):
            both = one + Migration(BINARY, T ** k, (("turn", k, 1, k),))
            self.assertEqual(self.check(both, 5), record)

    def test_large_records_that_stay(self):
        told = []
        for kind, levels in ((BINARY, 0), (BINARY, 1), (BINARY, 2), (BINARY, 4), (TURNED, 3), (FOUR, 0), (FOUR, 1)):
            migration = exchanging(kind, *doubling(kind, levels), 2)
            found = first_staying(migration)
            self.assertTrue(is_record(kind, migration.source, found))
            self.assertTrue(same(migration(found), found))
            told.append(size_of_record(found))
            parts = max(parts for _, parts in kind)
            # The same tree stands wherever one may, in both places.
            ways = {self.whole_size(parts, levels, size): 2 * how_many(kind, size) for size in range(1, 20)}
            for size in range(61):
                self.assertEqual(staying(migration, size), ways.get(size, 0))
        self.assertEqual(told, [7, 21, 51, 239, 113, 11, 53])

    def whole_size(self, parts, levels, size):
        """The size of a record of doubling whose smallest trees have a size."""
        sizes = [size]
        for _ in range(levels + 1):
            sizes.append(1 + parts * sizes[-1])
        return size + 2 * sum(sizes[1:])

    def test_more_than_400_tags(self):
        told = []
        for kind, levels in ((BINARY, 5), (BINARY, 9), (BINARY, 12), (TURNED, 12), (FOUR, 3), (FOUR, 6)):
            migration = exchanging(kind, *doubling(kind, levels), 2)
            told.append([staying(migration, size) for size in (0, 1, 30, 60)])
            self.assert_too_many(first_staying, migration)
        self.assertEqual(told, [[0] * 4] * 6)

    def test_just_400_tags(self):
        # The rows are told by hand: one tree alone stays, of just so many tags.
        still = Migration.nothing(MOTZKIN, T)
        for tags in (399, 400, 401, 402):
            tree = ("a",)
            for _ in range(tags - 1):
                tree = ("u", tree)
            with mock.patch.object(staying_file, "rows", lambda migration, tree=tree: [(1, 0, 0, (tree,), 1, 0, (tree,))]):
                if tags <= 400:
                    self.assertEqual(first_staying(still), (1, 0, (tree,)))
                else:
                    self.assert_too_many(first_staying, still)

    def test_sizes_of_hundreds_of_levels(self):
        # Rows as they come from some hundred steps: what stays by them has far more tags than could be written out.
        for levels in (30, 100, 300):
            patterns, images = doubling(BINARY, levels)
            row = (len(patterns), 3, 4, tuple(patterns), len(images), 3, tuple(images))
            self.assertGreater(staying_file.least_size(staying_file.solved(row)), 2 ** levels)
            self.assertIsNone(staying_file.solved((len(patterns), 3, 4, tuple(patterns), len(images), 2, tuple(images))))

    def test_many_rows(self):
        tall = Migration(BINARY, T, chain(BINARY, 399))
        there = tall >> ~tall
        self.assertEqual(len(rows(there)), 400)
        for size in (1, 5, 59):
            self.assertEqual(staying(there, size), how_many(BINARY, size))
        self.assertEqual(first_staying(there), (1, 0, (LEAF,)))
        turned = tall >> Migration(BINARY, tall.target, (("turn", 20, 1, 3),)) >> ~tall
        self.assertEqual([staying(turned, size) for size in (1, 3, 9)], [1, 1, 14])
        self.assertEqual([staying(cuts(500, 400), 0), first_staying(cuts(500, 400))], [0, None])


class Errors(Case):
    def test_mismatch_then_too_many(self):
        beyond = Migration(BINARY, T, chain(BINARY, 400))
        for migration in (beyond, Migration(BINARY, T, (("open", 1, 1),)), ~Migration(MOTZKIN, T, (("open", 1, 1),))):
            self.assertRaises(Mismatch, first_staying, migration)
            for size in (0, 1, 60):
                self.assertRaises(Mismatch, staying, migration, size)
        self.assert_too_many(first_staying, beyond >> ~beyond)
        self.assert_too_many(staying, beyond >> ~beyond, 0)


class TheInterface(Case):
    def test_the_example(self):
        turned = Migration(BINARY, Layout((0, 0, 1)), (("turn", 2, 1, 2),))
        self.assertEqual([staying(turned, size) for size in (2, 4, 6, 10)], [1, 0, 1, 2])
        self.assertEqual(first_staying(turned), (2, 0, (("leaf",), ("leaf",))))

    def test_it_is_defined_in_its_file(self):
        for name in ("staying", "first_staying"):
            self.assertEqual(getattr(staying_file, name).__module__, "layoutswap.staying")


if __name__ == "__main__":
    unittest.main()
