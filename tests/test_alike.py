"""Migrations that are alike, and the first record that two migrations lead to two (points 2 and 13, stage 9)."""

import random
import unittest

from layoutswap import alike
from layoutswap.alike import are_alike, changes_nothing, first_difference
from layoutswap.errors import Mismatch, TooMany
from layoutswap.layouts import Layout
from layoutswap.migrations import Migration
from layoutswap.records import is_record, numbered_record, size_of_record
from layoutswap.rows import rows
from loops import doubling, exchanging, in_turn, loops, permuted
from oracle import BINARY, EVEN, FOUR, KINDS, MOTZKIN, TURNED, leaning, same
from test_migrations import walks
from test_rows import chain, cuts

LEAF = ("leaf",)
JOIN = ("join", LEAF, LEAF)
T = Layout((0, 1))


class Case(unittest.TestCase):
    def check(self, one, other, sizes=5):
        """Compare with records gone through in order; return the first difference."""
        found = first_difference(one, other)
        self.assertIs(are_alike(one, other), found is None)
        for record in in_turn(one.kind, one.source, sizes):
            if one(record) != other(record):
                self.assertEqual(found, record)
                return found
            self.assertNotEqual(found, record)
        if found is not None:
            self.assertTrue(is_record(one.kind, one.source, found))
            self.assertFalse(same(one(found), other(found)))
        return found

    def assert_too_many(self, call, *arguments):
        with self.assertRaises(TooMany) as caught:
            call(*arguments)
        self.assertEqual(caught.exception.limit, 400)


class Differences(Case):
    def test_loops(self):
        told = [self.check(one, Migration.nothing(one.kind, one.source)) for many in (0, 1, 2, 4, 6) for one in loops(many, many)]
        self.assertGreater(told.count(None), 10)
        self.assertGreater(len(told) - told.count(None), 50)

    def test_two_ways_between_the_same_layouts(self):
        chance = random.Random(1)
        for many in (1, 3, 5):
            for migration in walks(many, 20 + many):
                others = [migration >> permuted(migration.kind, migration.target, 3, chance) for _ in range(2)]
                others.append(permuted(migration.kind, migration.source, 2, chance) >> others[0])
                for other in others:
                    self.check(migration, other, 4)
                    self.check(other, others[0], 4)

    def test_different_indexes_and_different_trees(self):
        three = Layout((0, 0, 3))
        still = Migration.nothing(BINARY, three)
        cases = [
            ((("move", 2, 0, 1),), (2, 0, (LEAF, LEAF))), ((("move", 2, 1, 1),), (2, 1, (LEAF, LEAF))),
            ((("move", 2, 2, 1),), None), ((("turn", 2, 1, 2),), (2, 2, (LEAF, JOIN))),
            ((("turn", 2, 3, 2),), (2, 0, (LEAF, JOIN))), ((("turn", 2, 3, 2),) * 2, None),
            # A place that stands behind is seen with smaller trees.
            ((("turn", 2, 3, 2), ("move", 2, 1, 1)), (2, 1, (LEAF, LEAF))),
        ]
        for steps, record in cases:
            self.assertEqual(self.check(Migration(BINARY, three, steps), still), record)
            self.assertEqual(self.check(still, Migration(BINARY, three, steps)), record)

    def test_kinds_with_two_smallest_trees(self):
        for kind, second in ((EVEN, ("b",)), (MOTZKIN, ("u", ("a",))), (FOUR, ("x",) + (("y",),) * 4)):
            first = numbered_record(kind, T, 0)[2][0]
            for k, j in ((2, 2), (3, 2), (3, 3), (5, 4)):
                layout = Layout([0] * k + [1])
                turned = Migration(kind, layout, (("turn", k, 1, j),))
                # The last two of the trees that are turned may be the first ones that are different.
                record = (k, 0, (first,) * (j - 1) + (second,) + (first,) * (k - j))
                self.assertEqual(self.check(turned, Migration.nothing(kind, layout), 2), record)

    def test_large_first_differences(self):
        for kind, levels in ((BINARY, 100), (TURNED, 60), (MOTZKIN, 50), (FOUR, 40)):
            tall = Migration(kind, T, chain(kind, levels))
            degree = tall.target.degree
            changed = tall >> Migration(kind, tall.target, (("turn", degree, 1, degree),)) >> ~tall
            found = first_difference(changed, Migration.nothing(kind, T))
            self.assertFalse(same(changed(found), found))
            self.assertGreater(size_of_record(found), levels)
            self.assertIs(are_alike(changed, Migration.nothing(kind, T)), False)
            # A record is led to two by this turn alone, so a smaller one is led to one.
            smaller = (1, 0, (leaning(kind, levels // 2, 0),))
            self.assertEqual(changed(smaller), smaller)

    def test_meeting_rows_of_large_trees(self):
        for kind, levels in ((BINARY, 12), (TURNED, 9), (FOUR, 6)):
            patterns, images = doubling(kind, levels)
            migration = exchanging(kind, patterns, images)
            found = first_difference(migration, Migration.nothing(kind, migration.source))
            self.assertFalse(same(migration(found), found))
            self.assertIs(changes_nothing(migration), False)
            self.assertIs(changes_nothing(migration >> ~migration), True)

    def test_trees_against_their_parts(self):
        # One tree goes into another one: a hole stands against a tag, and against a tree that holds itself.
        cases = [
            ((0, ("join", 1, 2)), (("join", 0, 1), 2)), ((0, ("join", 1, 2)), (("join", 1, 0), 2)),
            ((0, ("join", 1, 2)), (1, ("join", 0, 2))), ((0, ("join", 1, 2)), (1, ("join", 2, 0))),
            ((("join", 0, 1), ("join", 2, 3)), (("join", 2, 1), ("join", 0, 3))),
            ((("join", ("join", 0, 1), 2), 3), (3, ("join", 2, ("join", 1, 0)))),
            ((("join", 0, ("join", 1, 2)),), (("join", ("join", 0, 1), 2),)),
        ]
        for patterns, images in cases:
            one = exchanging(BINARY, patterns, images)
            still = Migration.nothing(BINARY, one.source)
            self.check(one, still, 8)
            for other_patterns, other_images in cases:
                if len(other_patterns) == len(patterns):
                    self.check(one, exchanging(BINARY, other_patterns, other_images), 8)
            self.check(one ** 2, one, 8)
            self.check(one ** 3, still, 8)

    def test_many_rows(self):
        tall = Migration(BINARY, T, chain(BINARY, 399))
        there = tall >> ~tall
        self.assertEqual(len(rows(there)), 400)
        self.assertIs(first_difference(there, Migration.nothing(BINARY, T)), None)
        self.assertIs(first_difference(there, there), None)
        self.assertIs(are_alike(tall, tall), True)
        turned = tall >> Migration(BINARY, tall.target, (("turn", 20, 1, 3),)) >> ~tall
        found = first_difference(turned, there)
        self.assertFalse(same(turned(found), there(found)))
        self.assertGreater(size_of_record(found), 400)
        self.assertIs(changes_nothing(cuts(500, 400)), False)
        self.assertEqual(first_difference(cuts(500, 400), Migration.nothing(BINARY, Layout((500,)))), (0, 0, ()))


    def test_many_rows_that_all_meet(self):
        # The one migration parts the first trees of two, the other one the second ones.
        first = Migration(BINARY, T, chain(BINARY, 398)) << 1
        turn = Migration(BINARY, T ** 2, (("turn", 2, 1, 2),))
        first = first >> ~first
        second = turn >> first >> turn
        self.assertEqual((len(rows(first)), len(rows(second))), (399, 399))
        self.assertIs(are_alike(first, second), True)
        self.assertIs(are_alike(turn >> second, second >> turn), True)
        self.assertIs(first_difference(turn >> second, second >> turn), None)
        self.assertEqual(first_difference(first, turn >> second), (2, 0, (LEAF, JOIN)))


class Alike(Case):
    def test_back_and_forth(self):
        for many in (1, 4, 7):
            for migration in walks(many, 40 + many):
                self.assertIs(changes_nothing(migration >> ~migration), True)
                self.assertIs(changes_nothing(~migration >> migration), True)
                self.assertIs(are_alike(migration, ~~migration), True)
                self.assertIs(are_alike(migration, migration), True)

    def test_ways_that_are_alike(self):
        two = Layout((0, 0, 1, 2))
        cases = [
            ([("turn", 3, 2, 3)] * 3, []), ([("turn", 3, 2, 2), ("turn", 3, 2, 3)], [("turn", 3, 2, 3), ("turn", 3, 2, 2)]),
            ([("move", 3, 0, 1)] * 2, []), ([("move", 3, 0, 1)], [("move", 3, 0, 1)] * 3),
            ([("open", 3, 2)], [("open", 3, 1), ("move", 2, 0, 1), ("open", 3, 1)]),
        ]
        told = []
        for one, other in cases:
            one, other = Migration(BINARY, two, one), Migration(BINARY, two, other)
            if one.target == other.target:
                told.append(self.check(one, other) is None)
        self.assertEqual(told[:4], [True, False, True, True])

    def test_changes_nothing(self):
        told = []
        for many in (1, 2, 4):
            for migration in loops(many, 50 + many):
                found = first_difference(migration, Migration.nothing(migration.kind, migration.source))
                told.append(changes_nothing(migration))
                self.assertIs(told[-1], found is None)
        self.assertTrue(True in told and False in told)
        for kind in KINDS:
            self.assertIs(changes_nothing(Migration.nothing(kind, Layout((2, 1, 3)))), True)
            self.assertIs(changes_nothing(Migration.nothing(kind, Layout(()))), True)


class Errors(Case):
    def test_mismatch_then_too_many(self):
        beyond = Migration(BINARY, T, chain(BINARY, 400))
        big = beyond >> ~beyond
        still = Migration.nothing(BINARY, T)
        others = [Migration.nothing(TURNED, T), Migration.nothing(BINARY, T + 1), Migration(BINARY, T, (("open", 1, 1),)), beyond]
        for call in (first_difference, are_alike):
            for other in others:
                self.assertRaises(Mismatch, call, still, other)
                self.assertRaises(Mismatch, call, other, still)
                self.assertRaises(Mismatch, call, big, other)
                self.assertRaises(Mismatch, call, other, big)
            self.assert_too_many(call, big, still)
            self.assert_too_many(call, still, big)
            self.assert_too_many(call, beyond, beyond)
        self.assertRaises(Mismatch, changes_nothing, beyond)
        self.assertRaises(Mismatch, changes_nothing, others[2])
        self.assert_too_many(changes_nothing, big)

    def test_the_target_alone_is_different(self):
        one = Migration(BINARY, T ** 2 + T, (("open", 2, 1),))
        other = Migration(BINARY, T ** 2 + T, (("open", 1, 1),))
        self.assertRaises(Mismatch, are_alike, one, other)


class TheInterface(Case):
    def test_the_example(self):
        two = Layout((0, 0, 1))
        turned, still = Migration(BINARY, two, (("turn", 2, 1, 2),)), Migration.nothing(BINARY, two)
        self.assertEqual(first_difference(turned, still), (2, 0, (("leaf",), ("join", ("leaf",), ("leaf",)))))
        self.assertIs(are_alike(turned ** 2, still), True)

    def test_it_is_defined_in_its_file(self):
        for name in ("first_difference", "are_alike", "changes_nothing"):
            self.assertEqual(getattr(alike, name).__module__, "layoutswap.alike")


if __name__ == "__main__":
    unittest.main()
