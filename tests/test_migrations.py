"""Migrations (points 2, 7 and 8, stage 6 of the interface)."""

import operator
import random
import unittest

from layoutswap import migrations
from layoutswap.errors import Mismatch, NoKind, NoLayout, NoRecord, NoStep, TooMany
from layoutswap.layouts import Layout
from layoutswap.migrations import Migration
from layoutswap.records import into_sum, is_record, size_of_record
from layoutswap.steps import layout_behind, record_behind
from oracle import BINARY, EVEN, FOUR, HALVES, KINDS, MOTZKIN, OTHERS, TURNED, WIDE, all_records, leaning, same
from test_steps import all_steps
from things import DEEP, LARGE

LEAF = ("leaf",)
JOIN = ("join", LEAF, LEAF)
T = Layout((0, 1))
OPENED = (("open", 1, 1), ("open", 2, 1))
STARTS = (
    (BINARY, (1, 2, 1)), (TURNED, (0, 1, 1, 1)), (MOTZKIN, (2, 2, 2)), (EVEN, (2, 2, 2)), (WIDE, (2, 2, 1, 1, 2)),
    (FOUR, (2, 2, 0, 0, 1)), (HALVES, (2, 1, 0, 2)), (BINARY, (3,)), (MOTZKIN, ()), (BINARY, (0, 0, 0, 3)),
)


def walks(many, seed):
    """Migrations by so many steps, each chosen by chance among those at the layout there."""
    chance = random.Random(seed)
    found = []
    for kind, factors in STARTS:
        for _ in range(3):
            layout, steps = Layout(factors), []
            for _ in range(many):
                possible = [step for step in all_steps(kind, layout) if layout_behind(kind, layout, step).total <= 12]
                if possible:
                    word = chance.choice(sorted({step[0] for step in possible}))
                    steps.append(chance.choice([step for step in possible if step[0] == word]))
                    layout = layout_behind(kind, layout, steps[-1])
            found.append(Migration(kind, Layout(factors), steps))
    return found


def small_records(migration):
    """The records of the source up to a small size."""
    size = 3 if len(migration.kind) == 2 else 2
    return all_records(migration.kind, migration.source.factors, size + max(migration.source.degree, 0))[:400]


class Case(unittest.TestCase):
    def assert_no_step(self, place, kind, layout, steps):
        with self.assertRaises(NoStep) as caught:
            Migration(kind, layout, steps)
        self.assertEqual(caught.exception.place, place)

    def assert_too_many(self, call, *arguments):
        with self.assertRaises(TooMany) as caught:
            call(*arguments)
        self.assertEqual(caught.exception.limit, 40)


class Making(Case):
    def test_attributes(self):
        for migration in walks(5, 1):
            layout = migration.source
            for step in migration.steps:
                layout = layout_behind(migration.kind, layout, step)
            self.assertEqual(migration.target, layout)
            self.assertIs(type(migration.source), Layout)
            self.assertIs(type(migration.target), Layout)
            self.assertIs(type(migration.steps), tuple)
            self.assertEqual(len(migration), len(migration.steps))
            self.assertIs(bool(migration), bool(migration.steps))

    def test_lists_and_tuples_of_steps(self):
        steps = list(OPENED)
        migration = Migration(BINARY, T, steps)
        self.assertEqual(steps, list(OPENED))
        self.assertEqual((migration.kind, migration.source, migration.steps), (BINARY, T, OPENED))
        steps.pop()
        steps[0] = None
        self.assertEqual((migration.steps, migration.target.factors, len(migration)), (OPENED, (1, 1, 0, 1), 2))
        self.assertEqual(migration((1, 0, (JOIN,))), (1, 0, (LEAF,)))
        self.assertEqual(Migration(BINARY, T, OPENED), migration)

    def test_nothing(self):
        for kind in KINDS:
            for layout in (T, Layout(()), Layout((3,)), Layout([10 ** 9] * 41)):
                nothing = Migration.nothing(kind, layout)
                self.assertIs(type(nothing), Migration)
                self.assertEqual((nothing.kind, nothing.source, nothing.target, nothing.steps), (kind, layout, layout, ()))
                self.assertEqual((len(nothing), bool(nothing)), (0, False))
        nothing = Migration.nothing(BINARY, T)
        self.assertEqual((nothing((1, 0, (JOIN,))), nothing.back((1, 0, (JOIN,)))), ((1, 0, (JOIN,)),) * 2)
        self.assertEqual(list(nothing.way((1, 0, (JOIN,)))), [(1, 0, (JOIN,))])

    def test_no_kind_then_no_layout_then_no_list(self):
        for thing in OTHERS + DEEP + LARGE:
            for layout, steps in ((T, ()), (None, None), (T, [None])):
                self.assertRaises(NoKind, Migration, thing, layout, steps)
            self.assertRaises(NoKind, Migration.nothing, thing, None)
            self.assertRaises(NoLayout, Migration.nothing, BINARY, thing)
            for steps in ((), None, [None]):
                self.assertRaises(NoLayout, Migration, BINARY, thing, steps)
            if not isinstance(thing, (list, tuple)):
                self.assert_no_step(-1, BINARY, T, thing)
        for thing in (BINARY[:1], list(BINARY), BINARY + BINARY):
            self.assertRaises(NoKind, Migration, thing, T, ())
        for thing in ((0, 1), [0, 1], Migration.nothing(BINARY, T)):
            self.assertRaises(NoLayout, Migration, BINARY, thing, ())
        for thing in (None, 0, "open", {}, {0: OPENED[0]}, T, Migration.nothing(BINARY, T)):
            self.assert_no_step(-1, BINARY, T, thing)

    def test_no_step_at_a_place(self):
        for thing in OTHERS + DEEP + LARGE + (["open", 1, 1], ("open", 1, True), ("open", 4, 1), ("close", 1, 2)):
            self.assert_no_step(0, BINARY, T, [thing])
            self.assert_no_step(1, BINARY, T, (OPENED[0], thing))
            self.assert_no_step(2, BINARY, T, OPENED + (thing, ("open", 3, 1)))
        self.assert_no_step(0, BINARY, T, OPENED[::-1])
        self.assert_no_step(1, BINARY, T, [OPENED[0], OPENED[0]])
        self.assert_no_step(0, BINARY, T, OPENED[0])
        self.assert_no_step(0, BINARY, Layout(()), OPENED)

    def test_the_first_place_counts(self):
        high = T ** 40 + T
        self.assert_too_many(Migration, BINARY, high, [("open", 40, 1)])
        self.assert_too_many(Migration, BINARY, high, [("open", 1, 1), ("open", 40, 1), None])
        self.assert_no_step(1, BINARY, high, [("open", 1, 1), None, ("open", 40, 1)])
        self.assert_no_step(0, BINARY, high, [("open", 40, 2), ("open", 40, 1)])
        self.assert_no_step(2, BINARY, high, [("turn", 40, 1, 2), ("move", 1, 0, 1), ("move", 1, 1, 1)])
        # Above the bound for one step alone, too, although the next one would close it again.
        self.assert_too_many(Migration, BINARY, high, [("open", 40, 1), ("close", 40, 1)])


class Leading(Case):
    def test_forth_and_back(self):
        for migration in walks(7, 2):
            images = set()
            for record in small_records(migration):
                image = migration(record)
                self.assertIs(is_record(migration.kind, migration.target, image), True)
                self.assertEqual(migration.back(image), record)
                images.add(image)
            self.assertEqual(len(images), len(small_records(migration)))
            for image in all_records(migration.kind, migration.target.factors, 3)[:400]:
                self.assertEqual(migration(migration.back(image)), image)

    def test_the_way(self):
        for migration in walks(4, 3):
            for record in small_records(migration)[::7]:
                layout, way = migration.source, [record]
                for step in migration.steps:
                    way.append(record_behind(migration.kind, layout, step, way[-1]))
                    layout = layout_behind(migration.kind, layout, step)
                self.assertEqual(list(migration.way(record)), way)
                self.assertEqual(migration(record), way[-1])
        way = Migration(BINARY, T, OPENED).way((1, 0, (JOIN,)))
        self.assertIs(iter(way), way)
        self.assertEqual(list(way), [(1, 0, (JOIN,)), (2, 0, (LEAF, LEAF)), (1, 0, (LEAF,))])

    def test_which_records_are_in_it(self):
        for migration in walks(3, 4):
            for record in small_records(migration) + all_records(migration.kind, migration.target.factors, 2)[:50]:
                self.assertIs(record in migration, is_record(migration.kind, migration.source, record))
            for thing in OTHERS + DEEP + LARGE:
                self.assertIs(thing in migration, thing == (0, 0, ()) and 0 in migration.source)

    def test_no_record(self):
        migration = Migration(BINARY, T, OPENED)
        wrong = [[1, 0, (LEAF,)], (1, 0, [LEAF]), (1, True, (LEAF,)), (1, 1, (LEAF,)), (2, 0, (LEAF, LEAF)), (1, 0, (("a",),))]
        for thing in list(OTHERS + DEEP + LARGE) + wrong:
            if thing != (0, 0, ()):
                self.assertRaises(NoRecord, migration.back, thing)
            self.assertRaises(NoRecord, migration, thing)
            self.assertRaises(NoRecord, list, migration.way(thing))
            self.assertRaises(NoRecord, next, migration.way(thing))
        # A record of the one layout alone is none of the other.
        self.assertRaises(NoRecord, migration, (0, 0, ()))
        self.assertEqual(migration.back((0, 0, ())), (1, 0, (LEAF,)))
        self.assertRaises(NoRecord, Migration(BINARY, T, OPENED[:1]).back, (1, 0, (LEAF,)))

    def test_great_trees(self):
        for kind in KINDS:
            most = max(parts for _, parts in kind)
            steps = [("open", 1, 1)] + [("open", most, 1)] * (1 if most < 3 else 0)
            migration = Migration(kind, T, steps)
            for side in range(4):
                record = (1, 0, (leaning(kind, 390, side),))
                image = migration(record)
                self.assertTrue(same(migration.back(image), record))
                self.assertTrue(same(list(migration.way(record))[-1], image))

    def test_images_of_more_than_400_tags(self):
        # Each close puts a tag on the record's tree.
        kind = (("a", 0), ("u", 1), ("c", 2))
        for many in (150, 5000):
            migration = Migration(kind, Layout((many, 1, many)), [("close", 1, 1)] * many)
            record = (1, 0, (leaning(kind, 150, 0),))
            image = migration(record)
            self.assertEqual(size_of_record(image), size_of_record(record) + many)
            self.assertGreater(size_of_record(image), 400)
            self.assertIs(is_record(kind, migration.target, image), True)
            self.assertTrue(same(migration.back(image), record))
            self.assertTrue(same((~migration)(image), record))
            again = Migration(kind, migration.target, [("open", 1, 1)])
            self.assertTrue(same(again(image), (1, 0, image[2][0][1:])))
            self.assertIs(image in again, True)

    def test_20000_steps(self):
        kind = (("a", 0), ("u", 1), ("c", 2))
        migration = Migration(kind, Layout((9, 2, 9)), [("close", 1, 1), ("turn", 2, 1, 2), ("move", 1, 0, 1), ("open", 1, 1)] * 5000)
        self.assertEqual((len(migration), migration.target.factors), (20000, (9, 2, 9)))
        for record in ((1, 0, (("a",),)), (2, 8, (("a",), ("u", ("a",)))), (0, 0, ())):
            self.assertTrue(same(migration.back(migration(record)), record))


class Signs(Case):
    def test_back_as_a_migration(self):
        for migration in walks(6, 5):
            other = ~migration
            self.assertIs(type(other), Migration)
            self.assertEqual((other.kind, other.source, other.target), (migration.kind, migration.target, migration.source))
            for record in small_records(migration):
                self.assertEqual(other(migration(record)), record)
                self.assertEqual(other.back(record), migration(record))
        for step in (("turn", 40, 1, 40), ("turn", 40, 1, 39), ("turn", 40, 1, 2), ("move", 40, 0, 1)):
            migration = Migration(BINARY, T ** 40, [step])
            record = (40, 0, tuple(leaning(BINARY, levels, 0) for levels in range(1, 41)))
            self.assertEqual((~migration)(migration(record)), record)

    def test_one_behind_the_other(self):
        for one in walks(4, 6):
            ahead = [record for record in small_records(one)]
            for other in (~one, Migration.nothing(one.kind, one.target)):
                joined = one >> other
                self.assertEqual((joined.kind, joined.source, joined.target), (one.kind, one.source, other.target))
                for record in ahead[::3]:
                    self.assertEqual(joined(record), other(one(record)))
                self.assertEqual((one.source, len(one)), (joined.source, len(one)))
        one, other = Migration(BINARY, T, OPENED[:1]), Migration(BINARY, T * T + 1, OPENED[1:])
        self.assertEqual((one >> other).target, Migration(BINARY, T, OPENED).target)
        self.assertEqual((one.steps, other.steps), (OPENED[:1], OPENED[1:]))
        self.assertRaises(Mismatch, operator.rshift, other, one)
        self.assertRaises(Mismatch, operator.rshift, one, one)
        for kind in KINDS[1:]:
            self.assertRaises(Mismatch, operator.rshift, Migration.nothing(BINARY, T), Migration.nothing(kind, T))
            self.assertRaises(Mismatch, operator.rshift, Migration.nothing(kind, T), Migration.nothing(BINARY, T))

    def test_so_many_times(self):
        kind = (("a", 0), ("u", 1), ("c", 2))
        turned = Migration(kind, Layout((0, 2, 0, 3)), [("turn", 3, 2, 3), ("move", 1, 0, 1), ("move", 3, 0, 1)])
        trees = (("a",), ("u", ("a",)), ("c", ("a",), ("a",)))
        for n in range(21):
            power = turned ** n
            self.assertEqual((power.kind, power.source, power.target), (kind, turned.source, turned.source))
            for record in [(3, i, trees) for i in range(3)] + [(1, i, trees[:1]) for i in range(2)]:
                image = record
                for _ in range(n):
                    image = turned(image)
                self.assertEqual(power(record), image)
        self.assertEqual(len(turned), 3)
        different = Migration(BINARY, T, OPENED)
        for n in (0, 1, 2, 20):
            self.assertRaises(Mismatch, operator.pow, different, n)

    def test_with_more_trees(self):
        for migration in walks(5, 7):
            kind = migration.kind
            more = [leaning(kind, levels, 0) for levels in (1, 2, 3, 4)]
            most = max(layout.degree for layout in self.layouts(migration))
            for j in (0, 1, 2, 4):
                longer = migration << j
                self.assertEqual((longer.kind, longer.source, longer.target), (kind, migration.source << j, migration.target << j))
                for k, i, trees in small_records(migration)[::5]:
                    image = migration((k, i, trees))
                    self.assertEqual(longer((k + j, i, trees + tuple(more[:j]))), (image[0] + j, image[1], image[2] + tuple(more[:j])))
            if most >= 0:
                self.assertEqual(max(layout.degree for layout in self.layouts(migration << (40 - most))), 40)
                self.assert_too_many(operator.lshift, migration, 41 - most)
            else:
                self.assertEqual((migration << 40).source.factors, ())

    def layouts(self, migration):
        """The layouts on the way of a migration."""
        found = [migration.source]
        for step in migration.steps:
            found.append(layout_behind(migration.kind, found[-1], step))
        return found

    def test_with_more_trees_beyond_the_bound(self):
        # The layout on the way alone is too high, neither the source nor the target.
        migration = Migration(BINARY, T, [("open", 1, 1), ("close", 1, 1)])
        self.assertEqual((migration << 38).target, T ** 39)
        self.assert_too_many(operator.lshift, migration, 39)
        self.assert_too_many(operator.lshift, migration, 40)
        self.assertEqual((Migration.nothing(BINARY, T) << 39).source, T ** 40)
        self.assert_too_many(operator.lshift, Migration.nothing(BINARY, T), 40)
        self.assertEqual((Migration(BINARY, Layout((3,)), [("move", 0, 1, 1)]) << 40).steps[0][0], "move")

    def test_one_beside_the_other(self):
        found = walks(4, 8)
        for one, other in zip(found, found[1:] + found[:1]):
            if one.kind == other.kind:
                self.check_sum(one, other)
                self.check_sum(other, one)
            self.check_sum(one, one)
            self.check_sum(one, ~one)
            self.check_sum(Migration.nothing(one.kind, T + 2), one)
            self.check_sum(one, Migration.nothing(one.kind, Layout(())))

    def check_sum(self, one, other):
        """Lead the small records of both as the sum of the two leads them."""
        kept = (one.steps, one.target, other.steps, other.target)
        both = one + other
        self.assertEqual((both.kind, both.source, both.target), (one.kind, one.source + other.source, one.target + other.target))
        for side, part in enumerate((one, other)):
            for record in small_records(part)[::3]:
                image = both(into_sum(one.source, other.source, side, record))
                self.assertEqual(image, into_sum(one.target, other.target, side, part(record)))
        self.assertEqual((one.steps, one.target, other.steps, other.target), kept)

    def test_sums_of_two_kinds(self):
        for kind in KINDS[1:]:
            self.assertRaises(Mismatch, operator.add, Migration.nothing(BINARY, T), Migration.nothing(kind, T))

    def test_in_place(self):
        migration = kept = Migration(BINARY, T, OPENED)
        migration >>= ~kept
        migration += kept
        migration <<= 1
        self.assertEqual((migration.source.factors, migration.target.factors), ((0, 0, 2), (0, 1, 2, 0, 1)))
        self.assertEqual((kept.source, kept.steps, kept.target.factors), (T, OPENED, (1, 1, 0, 1)))

    def test_equality(self):
        migration = Migration(BINARY, T, OPENED)
        self.assertIs(migration == Migration(BINARY, Layout([0, 1, 0]), list(OPENED)), True)
        self.assertIs(migration != Migration(BINARY, T, OPENED), False)
        others = [
            Migration(TURNED, T, OPENED), Migration(BINARY, T + 1, OPENED), Migration(BINARY, T, OPENED[:1]),
            Migration(BINARY, T, OPENED + (("move", 0, 0, 1),)), Migration.nothing(BINARY, T), ~migration,
        ]
        for thing in others + list(OTHERS + DEEP + LARGE) + [OPENED, T, list(OPENED)]:
            self.assertIs(migration == thing, False)
            self.assertIs(thing == migration, False)
            self.assertIs(migration != thing, True)
        self.assertIs(Migration.nothing(BINARY, T) == (), False)


class TheInterface(Case):
    def test_the_example(self):
        kind, leaf, t = (("leaf", 0), ("join", 2)), ("leaf",), Layout((0, 1))
        join = ("join", leaf, leaf)
        m = Migration(kind, t, [("open", 1, 1), ("open", 2, 1)])
        self.assertEqual([m.target.factors, m((1, 0, (("join", join, leaf),)))], [(1, 1, 0, 1), (3, 0, (leaf, leaf, leaf))])
        self.assertEqual([m.back((1, 0, (leaf,))), (m >> ~m)((1, 0, (join,)))], [(1, 0, (join,)), (1, 0, (join,))])
        self.assertEqual([len(m), (m << 2).source.factors, (m + m).target.factors], [2, (0, 0, 0, 1), (2, 2, 0, 2)])

    def test_it_is_defined_in_its_file_with_all_its_methods(self):
        self.assertEqual(migrations.Migration.__module__, "layoutswap.migrations")
        signs = "call contains invert rshift pow lshift add eq len bool".split()
        for name in ["nothing", "back", "way"] + [f"__{sign}__" for sign in signs]:
            self.assertIn(name, vars(Migration))


if __name__ == "__main__":
    unittest.main()
