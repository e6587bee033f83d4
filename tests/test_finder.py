"""How steps are found (points 2, 10 and 11, stage 7 of the interface)."""

import itertools
import random
import unittest
from unittest import mock

from layoutswap import finder
from layoutswap.errors import NoKind, NotLike, TooMany
from layoutswap.finder import led, migration_to
from layoutswap.kinds import is_kind
from layoutswap.layouts import Layout
from layoutswap.migrations import Migration
from layoutswap.records import numbered_record
from layoutswap.rests import Rest, are_like
from layoutswap.steps import is_step, layout_behind
from oracle import BINARY, EVEN, FOUR, HALVES, KINDS, MOTZKIN, OTHERS, WIDE, cut, f_of, plus, same, times
from things import DEEP, LARGE

T = Layout((0, 1))


def some_kinds(many, seed):
    """Kinds by chance, of two to eight variants, with and without one with one part."""
    chance = random.Random(seed)
    found = []
    while len(found) < many:
        numbers = [chance.choice((0, 1, 2, 3, 4)) for _ in range(chance.randint(2, 8))]
        if chance.random() < 0.4:
            numbers = [parts for parts in numbers if parts != 1]
        kind = tuple(("v" + str(at), parts) for at, parts in enumerate(numbers))
        if is_kind(kind):
            found.append(kind)
    return found


def like_pair(kind, chance, base):
    """Two layouts of degree 7 at most and factors up to 100 that differ by F times some polynomial."""
    whole = f_of(kind)
    while True:
        bound = chance.choice((1, 2, 10, 60))
        wanted = [chance.randint(-bound, bound) for _ in range(chance.randint(1, 9 - len(whole)))]
        less = cut(times(whole, wanted))
        if all(abs(factor) <= 100 for factor in less):
            one = [max(0, -factor) for factor in less] + [0] * (8 - len(less))
            one = [min(max(factor, base), 100 - max(0, part)) for factor, part in itertools.zip_longest(one, less, fillvalue=0)]
            return Layout(one), Layout(plus(one, less))


class Case(unittest.TestCase):
    def check(self, kind, one, other):
        """Go through the steps from one layout to the other; return how many there are."""
        answer = led(kind, one, other)
        self.assertEqual((type(answer), len(answer), answer[0]), (tuple, 2, "like"))
        self.assertIs(type(answer[1]), tuple)
        self.assertLessEqual(len(answer[1]), 20000)
        layout = one
        for step in answer[1]:
            self.assertIs(is_step(kind, layout, step), True)
            layout = layout_behind(kind, layout, step)
        self.assertEqual(layout, other)
        return len(answer[1])

    def assert_too_many(self, limit, call, *arguments):
        with self.assertRaises(TooMany) as caught:
            call(*arguments)
        self.assertEqual(caught.exception.limit, limit)


class Like(Case):
    def test_small_layouts(self):
        layouts = [Layout(factors) for factors in itertools.product(range(3), repeat=4)]
        for kind in KINDS:
            whole = f_of(kind)
            for one, other in itertools.product(layouts[::2], layouts[::3]):
                if are_like(kind, one, other):
                    self.check(kind, one, other)
                else:
                    told = ("constant",) if one.constant or other.constant else None
                    rests = ("rests", Rest.of(kind, one).factors, Rest.of(kind, other).factors)
                    self.assertEqual(led(kind, one, other), told or rests)
            self.assertEqual(len(whole), 1 + max(parts for _, parts in kind))

    def test_kinds_of_every_sort(self):
        chance = random.Random(1)
        for kind in some_kinds(150, 2):
            for base in (0, 1, 40, 100):
                one, other = like_pair(kind, chance, base)
                if not one.constant and not other.constant:
                    self.check(kind, one, other)
                    self.check(kind, other, one)

    def test_one_place_becomes_many(self):
        for kind in KINDS:
            whole = f_of(kind)
            for many in (1, 2, 3, 10, 33, 100):
                factors = [many * factor for factor in whole]
                if all(0 <= factor + (k == 1) * many <= 100 for k, factor in enumerate(factors)):
                    for k in range(8 - len(whole) + 1):
                        start = [0] * k + [max(0, -factor) for factor in factors]
                        one = Layout(plus(start, T.factors))
                        other = Layout(plus(one.factors, [0] * k + factors))
                        if max(one.factors + other.factors) <= 100 and other.degree > 0:
                            self.check(kind, one, other)
                            self.check(kind, other, one)

    def test_factors_near_100_and_degree_7(self):
        chance = random.Random(3)
        for kind in KINDS + tuple(some_kinds(20, 4)):
            for _ in range(6):
                one, other = like_pair(kind, chance, 100)
                more = Layout([0] * 7 + [1])
                if one[7] < 100 and other[7] < 100:
                    self.check(kind, one + more, other + more)
        # All that is there is one place with seven trees, or one with one tree, and many without trees.
        cases = ((BINARY, 6), (MOTZKIN, 4), (FOUR, None), (HALVES, None), (EVEN, None), (WIDE, None))
        for kind, period in cases:
            for j, k in itertools.product(range(1, 8), repeat=2):
                if period and (j - k) % period == 0:
                    self.check(kind, T ** j, T ** k)
                    self.check(kind, T ** j + 100, T ** k + 100)
                elif j != k:
                    self.assertEqual(led(kind, T ** j, T ** k)[0], "rests")

    def test_where_places_must_be_made_ready_first(self):
        # One place with one tree and many without trees: the one has to become many.
        one, other = Layout((100, 1)), Layout((0, 1, 0, 0, 0, 0, 100))
        self.assertGreater(self.check(BINARY, one, other), 6)
        self.assertGreater(self.check(BINARY, other, one), 6)

    def test_places_are_made_ready_for_each_pair(self):
        # Without the short tries, so that each pair of layouts is led by the rounds of point 11.
        chance = random.Random(8)
        layouts = [Layout(factors) for factors in itertools.product(range(3), repeat=4)]
        with mock.patch.object(finder, "trying", return_value=None):
            for kind in KINDS:
                for one, other in itertools.product(layouts[::2], layouts[::3]):
                    if are_like(kind, one, other):
                        self.check(kind, one, other)
            for kind in some_kinds(100, 9):
                for base in (0, 1, 100):
                    one, other = like_pair(kind, chance, base)
                    if not one.constant and not other.constant:
                        self.check(kind, one, other)
                        self.check(kind, other, one)
            for many in range(1, 100):
                self.check(BINARY, many * (T * T + 1), many * T)
                self.check(BINARY, many * T, many * (T * T + 1))
                self.check(MOTZKIN, T ** 7, T ** 7 + many * (T ** 5 + T ** 3))
                self.check(MOTZKIN, T + many * (T ** 5 + T ** 3), T)

    def test_so_many_places_are_made_as_are_needed(self):
        for wanted in itertools.product(range(-3, 4), repeat=3):
            if any(wanted):
                for kind in KINDS:
                    needed = [0] * 8
                    for k, many in enumerate(wanted):
                        if many > 0:
                            needed[k + 1] += many
                        for _, parts in kind:
                            needed[k + parts] -= min(many, 0)
                    self.assertEqual(tuple(finder.places_needed(kind, wanted)), cut(needed))

    def test_single_steps_are_found_as_they_are(self):
        self.assertEqual(led(BINARY, T, T * T + 1), ("like", (("open", 1, 1),)))
        self.assertEqual(led(BINARY, T * T + 1, T), ("like", (("close", 1, 1),)))
        self.assertEqual(led(EVEN, 50 * T ** 2, 50 * (2 + T + 2 * T ** 2) * T), ("like", (("open", 2, 50),)))

    def test_equal_layouts(self):
        for kind in KINDS:
            for layout in (T, Layout(()), Layout((5,)), Layout([100] * 8)):
                self.check(kind, layout, Layout(layout.factors))

    def test_constant_layouts(self):
        for kind in KINDS:
            constants = [Layout(()), Layout((1,)), Layout((2,)), Layout((100,))]
            for one, other in itertools.permutations(constants + [T, T ** 7 + 1], 2):
                if one.constant or other.constant:
                    self.assertEqual(led(kind, one, other), ("constant",))
        # Also where their rests are equal.
        self.assertEqual(led(MOTZKIN, Layout(()), T * T + 1), ("constant",))
        self.assertEqual(led(MOTZKIN, T * T + 1, Layout(())), ("constant",))

    def test_rests_that_are_different(self):
        for kind in KINDS:
            for one, other in ((T, 2 * T), (T ** 2 + 1, T ** 2), (T ** 7, 99 * T ** 7 + 3)):
                answer = led(kind, one, other)
                self.assertEqual(answer, ("rests", Rest.of(kind, one).factors, Rest.of(kind, other).factors))
                self.assertNotEqual(answer[1], answer[2])
        self.assertEqual(led(EVEN, T ** 3, T), ("rests", (0, 0, 0, 1), (0, 1)))


class Errors(Case):
    def test_no_kind_then_7_then_100(self):
        high, great = T ** 8, 101 * T
        for call in (led, migration_to):
            for thing in OTHERS + DEEP + LARGE:
                self.assertRaises(NoKind, call, thing, high, great)
                self.assertRaises(NoKind, call, thing, T, T)
            for one, other in ((high, T), (T, high), (high, great), (great, high), (high, high), (101 * high, T), (T ** 40, T ** 40)):
                self.assert_too_many(7, call, BINARY, one, other)
            for one, other in ((great, T), (T, great), (great, great), (T + 101, T), (T, 101 * T ** 7), (Layout((101,)), Layout((101,)))):
                self.assert_too_many(100, call, BINARY, one, other)
        self.check(BINARY, 100 * T ** 7 + 100, 100 * T ** 7 + 100)
        self.check(BINARY, 100 * T ** 7, 100 * T)

    def test_not_like(self):
        for one, other in ((T, 2 * T), (T ** 2, T), (Layout((1,)), T), (Layout((1,)), Layout((2,))), (Layout(()), T)):
            with self.assertRaises(NotLike) as caught:
                migration_to(BINARY, one, other)
            self.assertEqual(caught.exception.answer, led(BINARY, one, other))


class Migrations(Case):
    def test_migrations_by_these_steps(self):
        chance = random.Random(6)
        for kind in KINDS + tuple(some_kinds(10, 7)):
            one, other = like_pair(kind, chance, 1)
            migration = migration_to(kind, one, other)
            self.assertIs(type(migration), Migration)
            self.assertEqual((migration.kind, migration.source, migration.target), (kind, one, other))
            for number in (0, 1, 5, 1000, 10 ** 12):
                record = numbered_record(kind, one, number)
                self.assertTrue(same(migration.back(migration(record)), record))

    def test_equal_and_constant_layouts(self):
        for layout in (T, Layout((3,)), Layout(())):
            migration = migration_to(BINARY, layout, layout)
            self.assertEqual((migration.source, migration.target), (layout, layout))


class TheInterface(Case):
    def test_the_example(self):
        kind, t = (("a", 0), ("u", 1), ("c", 2)), Layout.trees(1)
        self.assertEqual([led(kind, t ** 2, t), led(kind, Layout.number(1), t ** 6)], [("rests", (-1,), (0, 1)), ("constant",)])
        self.assertEqual(led(kind, t, t)[0], "like")
        self.assertIs(migration_to(kind, t ** 4 + t, t + 1).target == t + 1, True)

    def test_each_function_is_defined_in_its_file(self):
        for name in ("led", "migration_to"):
            self.assertEqual(getattr(finder, name).__module__, "layoutswap.finder")


if __name__ == "__main__":
    unittest.main()
