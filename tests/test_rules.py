"""Migrations made from tables, and what shows that rows are none (points 2, 14 and 22, stage 14 of the interface)."""

import itertools
import random
import unittest

from layoutswap import rules
from layoutswap.alike import are_alike
from layoutswap.errors import NoKind, NoRow, NoTable
from layoutswap.layouts import Layout
from layoutswap.migrations import Migration
from layoutswap.records import is_record
from layoutswap.rows import by_rows, rows, shows_rows
from layoutswap.rules import migration_by, shows_fault
from oracle import BINARY, EVEN, FOUR, HALVES, KINDS, MOTZKIN, OTHERS, TURNED, WIDE, leaning
from plain_rows import filled, image_by, numbered, records_up_to
from tables import back_by, faults, in_rounds, table, weight
from test_finder import some_kinds
from test_migrations import walks
from test_rows import spoilt
from things import DEEP, LARGE

LEAF = ("leaf",)
JOIN = ("join", LEAF, LEAF)
T = Layout((0, 1))
WORDS = ("none", "several", "unmet", "met")
STARTS = (
    (BINARY, (0, 1)), (BINARY, (0, 2)), (BINARY, (0, 0, 1)), (TURNED, (1, 2, 1)), (BINARY, (2, 0, 0, 3)), (MOTZKIN, (0, 0, 1)),
    (MOTZKIN, (1, 2, 2)), (EVEN, (2, 2, 1)), (EVEN, (0, 1)), (WIDE, (0, 1)), (WIDE, (1, 1, 1)), (FOUR, (0, 2, 1)),
    (FOUR, (0, 0, 0, 0, 1)), (HALVES, (1, 2, 0, 1)), (BINARY, (0, 0, 0, 0, 4)), (BINARY, (3, 1, 0, 2, 1)),
)


class Case(unittest.TestCase):
    def check_made(self, kind, source, target, some):
        """Make a migration from a table, and compare where it leads records with where the rows tell."""
        kept = list(some)
        migration = migration_by(kind, source, target, some)
        self.assertIs(type(migration), Migration)
        self.assertEqual((migration.kind, migration.source, migration.target), (kind, source, target))
        self.assertEqual(some, kept)
        for record in records_up_to(kind, source.factors, 4, 60):
            images = [image for image in (image_by(row, record) for row in some) if image is not None]
            self.assertEqual(images, [migration(record)])
        self.assertIs(shows_rows(migration, some), True)
        return migration

    def fault_of(self, kind, source, target, some):
        """The fault that is told of rows, which are no table; it is a right one."""
        with self.assertRaises(NoTable) as caught:
            migration_by(kind, source, target, some)
        fault = caught.exception.fault
        self.assertEqual((type(fault), len(fault)), (tuple, 2))
        word, record = fault
        self.assertIn(word, WORDS)
        self.assertTrue(is_record(kind, source if word in ("none", "several") else target, record))
        if word in ("none", "several"):
            holding = len([row for row in some if image_by(row, record) is not None])
        else:
            holding = len({back_by(row, record) for row in some} - {None})
        self.assertTrue(holding > 1 if word in ("several", "met") else holding == 0, fault)
        self.assertIs(shows_fault(kind, source, target, some, fault), True)
        return word

    def assert_no_row(self, place, call, *arguments):
        with self.assertRaises(NoRow) as caught:
            call(*arguments)
        self.assertEqual(caught.exception.place, place)


class Tables(Case):
    def test_tables_by_chance(self):
        chance = random.Random(1)
        steps = degree = many = 0
        for kind, factors in STARTS + tuple((kind, (1, 2, 0, 1, 1)) for kind in some_kinds(10, 9)):
            for _ in range(6):
                some = table(kind, factors, chance.randint(0, 40), chance)
                made = self.check_made(kind, Layout(factors), Layout(factors), some)
                steps, many = max(steps, len(made)), max(many, len(some))
                degree = max(degree, max(layout.degree for layout in made.layouts))
        self.assertGreater(many, 10)
        self.assertLessEqual(degree, 40)
        self.assertLessEqual(steps, 20000)

    def test_rows_of_migrations_in_any_order(self):
        chance = random.Random(2)
        told = 0
        for many in (0, 1, 2, 3, 5, 8):
            for migration in walks(many, 70 + many):
                some = rows(migration)
                if len(some) <= 12 and weight(migration.kind, some) <= 36 and max(migration.source.degree, migration.target.degree) <= 4:
                    chance.shuffle(some)
                    made = self.check_made(migration.kind, migration.source, migration.target, some)
                    self.assertIs(are_alike(made, migration), True)
                    told += made != migration
        self.assertGreater(told, 60)

    def test_rows_that_no_single_tree_parts(self):
        chance = random.Random(3)
        for _ in range(40):
            self.check_made(BINARY, Layout((0, 0, 0, 1)), Layout((0, 0, 0, 1)), in_rounds(chance))

    def test_coarse_rows(self):
        for kind in KINDS:
            for factors in ((), (3,), (2, 0, 1), (1, 1, 1, 1, 1), (10 ** 40, 7, 10 ** 45)):
                some = [(k, 0, factor - 1, tuple(range(k)), k, 0, tuple(range(k))) for k, factor in enumerate(factors) if factor]
                self.assertEqual(len(self.check_made(kind, Layout(factors), Layout(factors), some)), 0)

    def test_places_that_change_their_order(self):
        parts = [(0, 2), (3, 5), (6, 9)]
        for order in itertools.permutations(range(3)):
            for turned in range(3):
                some, start = [], 0
                for at in order:
                    low, high = parts[at]
                    some.append((2, low, high, (0, 1), 2, start, (1, 0) if at == turned else (0, 1)))
                    start += high - low + 1
                self.check_made(BINARY, Layout((0, 0, 10)), Layout((0, 0, 10)), some)

    def test_places_round_and_round(self):
        many = 10 ** 30
        some = [(1, 0, many - 2, (0,), 1, 1, (0,)), (1, many - 1, many - 1, (0,), 1, 0, (0,))]
        made = migration_by(BINARY, Layout((0, many)), Layout((0, many)), some)
        for i in (0, 1, 5, many - 2, many - 1):
            self.assertEqual(made((1, i, (JOIN,))), (1, (i + 1) % many, (JOIN,)))
        # The one side is parted where the other one is not, and each piece goes elsewhere.
        some = [
            (1, 0, 6, (LEAF,), 0, 3, ()), (1, 7, 9, (LEAF,), 0, 0, ()), (1, 0, 4, (("join", 0, 1),), 2, 5, (1, 0)),
            (1, 5, 9, (("join", 0, 1),), 2, 0, (0, 1)),
        ]
        self.check_made(BINARY, Layout((0, 10)), Layout((10, 0, 10)), some)
        self.check_made(BINARY, Layout((0, 10)), Layout((10, 0, 10)), some[::-1])

    def test_another_layout_behind(self):
        self.check_made(BINARY, T, Layout((1, 0, 1)), [(1, 0, 0, (LEAF,), 0, 0, ()), (1, 0, 0, (("join", 0, 1),), 2, 0, (1, 0))])
        self.check_made(BINARY, Layout((1, 0, 1)), T, [(0, 0, 0, (), 1, 0, (LEAF,)), (2, 0, 0, (0, 1), 1, 0, (("join", 1, 0),))])
        self.check_made(EVEN, Layout((4, 2, 4)), Layout((0, 2)), [
            (0, 0, 1, (), 1, 0, (("b",),)), (0, 2, 3, (), 1, 0, (("a",),)), (1, 0, 1, (0,), 1, 0, (("u", 0),)),
            (2, 0, 1, (0, 1), 1, 0, (("k", 1, 0),)), (2, 2, 3, (0, 1), 1, 0, (("j", 0, 1),)),
        ])

    def test_deep_patterns(self):
        # The first of four trees is opened again and again, and stands last in the images: as often as the bounds allow.
        for kind in KINDS:
            some, further = [], [(4, 0, 0, (0, 1, 2, 3), 4, 0, (1, 2, 3, 0))]
            while len(further) <= 12 and weight(kind, further) <= 36:
                some = further
                further = self.parted_at_first_hole(kind, some)
            back = [numbered((4, 0, 0, row[6], 4, 0, row[3])) for row in some]
            for told in (some, back):
                made = self.check_made(kind, T ** 4, T ** 4, told)
                self.assertLessEqual(max(layout.degree for layout in made.layouts), 40)

    def parted_at_first_hole(self, kind, some):
        """Rows, the last one of which is parted by the tag in its hole 0; what has the most parts stands last."""
        k, low, high, patterns, degree, first, images = some[-1]
        found = []
        for tag, parts in sorted(kind, key=lambda variant: variant[1]):
            worth = {hole: hole for hole in range(100)}
            worth[0] = (tag, *range(100, 100 + parts))
            told = [tuple(filled(pattern, worth) for pattern in side) for side in (patterns, images)]
            found.append(numbered((k, low, high, told[0], degree, first, told[1])))
        return some[:-1] + found


class Faults(Case):
    def test_rows_left_out_or_told_twice(self):
        chance = random.Random(4)
        words = set()
        for kind, factors in STARTS:
            layout = Layout(factors)
            for _ in range(6):
                some = table(kind, factors, chance.randint(1, 20), chance)
                at = chance.randrange(len(some))
                less = some[:at] + some[at + 1:]
                words.add(self.fault_of(kind, layout, layout, less))
                words.add(self.fault_of(kind, layout, layout, some + [some[at]]))
                self.fault_of(kind, layout, layout, [])
        self.assertEqual(words, {"none", "several"})

    def test_each_fault(self):
        holes, other = (0,), ("join", 0, 1)
        two = Layout((0, 2))
        cases = [
            ("none", [(1, 0, 0, holes, 1, 0, holes)]), ("none", [(1, 0, 1, (other,), 1, 0, (other,))]),
            ("several", [(1, 0, 1, holes, 1, 0, holes)] * 2), ("several", [(1, 0, 1, holes, 1, 0, holes), (1, 1, 1, holes, 1, 1, holes)]),
            ("several", [(1, 0, 1, holes, 1, 0, holes), (1, 0, 0, (LEAF,), 1, 0, (LEAF,))]),
            ("met", [(1, 0, 0, holes, 1, 0, holes), (1, 1, 1, holes, 1, 0, holes)]),
            ("met", [(1, 0, 1, (LEAF,), 1, 0, (LEAF,)), (1, 0, 0, (other,), 1, 0, (other,)), (1, 1, 1, (other,), 1, 0, (other,))]),
        ]
        for word, some in cases:
            self.assertEqual(self.fault_of(BINARY, two, two, some), word)
        self.assertEqual(self.fault_of(BINARY, T, two, [(1, 0, 0, holes, 1, 1, holes)]), "unmet")
        self.assertEqual(self.fault_of(BINARY, T, T, [(1, 0, 0, holes, 1, 0, (("join", LEAF, 0),))]), "unmet")
        self.assertEqual(self.fault_of(BINARY, Layout(()), T, []), "unmet")
        self.assertEqual(self.fault_of(BINARY, Layout((1,)), Layout(()), []), "none")

    def test_spoilt_rows(self):
        chance = random.Random(5)
        told = {word: 0 for word in ("right", "no row") + WORDS}
        for kind, factors in STARTS:
            layout = Layout(factors)
            for _ in range(4):
                some = table(kind, factors, chance.randint(0, 25), chance)
                for thing in spoilt(kind, some, chance):
                    try:
                        migration_by(kind, layout, layout, thing)
                        told["right"] += 1
                        self.check_made(kind, layout, layout, thing)
                    except NoRow as error:
                        told["no row"] += 1
                        self.assert_no_row(error.place, shows_fault, kind, layout, layout, thing, None)
                    except NoTable:
                        told[self.fault_of(kind, layout, layout, thing)] += 1
        self.assertGreater(min(told[word] for word in told if word != "unmet"), 10, told)

    def test_all_faults_of_small_records(self):
        chance = random.Random(6)
        told = {word: 0 for word in WORDS}
        for kind, factors in STARTS[:8]:
            layout = Layout(factors)
            for _ in range(3):
                some = table(kind, factors, chance.randint(1, 12), chance)
                at = chance.randrange(len(some))
                k, low, high, patterns, degree, first, images = some[at]
                lists = [some, some[:at] + some[at + 1:], some + [some[at]]]
                lists.append(some[:at] + [(k, low, high, patterns, degree, max(0, first - 1), images)] + some[at + 1:])
                lists.append(some + [(k, low, high, patterns, degree, max(0, first - 1), images[::-1])])
                for thing in lists:
                    right = faults(kind, factors, factors, thing, 5 if len(kind) == 2 else 3)
                    for word, record in right:
                        told[word] += 1
                        for other in WORDS:
                            self.assertIs(shows_fault(kind, layout, layout, thing, (other, record)), (other, record) in right)
                    for record in records_up_to(kind, factors, 2, 40):
                        for word in WORDS:
                            if self.is_small(kind, record):
                                self.assertIs(shows_fault(kind, layout, layout, thing, (word, record)), (word, record) in right)
        self.assertGreater(min(told.values()), 10, told)

    def is_small(self, kind, record):
        return sum(str(tree).count("(") for tree in record[2]) <= (5 if len(kind) == 2 else 3)

    def test_a_record_that_is_led_there_twice_is_one_record(self):
        # Two rows for one record lead it to the same one: "several" is a fault, "met" is none.
        some = [(1, 0, 0, (0,), 1, 0, (0,)), (1, 0, 0, (LEAF,), 1, 0, (LEAF,))]
        told = [shows_fault(BINARY, T, T, some, (word, (1, 0, (LEAF,)))) for word in WORDS]
        self.assertEqual(told, [False, True, False, False])
        some = [(1, 0, 0, (0,), 1, 0, (0,)), (1, 1, 1, (LEAF,), 1, 0, (LEAF,)), (1, 1, 1, (("join", 0, 1),), 1, 1, (("join", 1, 0),))]
        two = Layout((0, 2))
        told = [shows_fault(BINARY, two, two, some, (word, (1, 0, (LEAF,)))) for word in WORDS]
        self.assertEqual(told, [False, False, False, True])
        self.assertIs(shows_fault(BINARY, two, two, some, ("unmet", (1, 1, (LEAF,)))), True)

    def test_shows_fault_of_other_objects(self):
        some = [(1, 0, 0, (LEAF,), 1, 0, (LEAF,))]
        right = (1, 0, (JOIN,))
        self.assertIs(shows_fault(BINARY, T, T, some, ("none", right)), True)
        self.assertIs(shows_fault(BINARY, T, T, some, ("unmet", right)), True)
        for thing in OTHERS + DEEP + LARGE:
            self.assertIs(shows_fault(BINARY, T, T, some, thing), False)
            self.assertIs(shows_fault(BINARY, T, T, some, (thing, right)), False)
            for word in WORDS:
                self.assertIs(shows_fault(BINARY, T, T, some, (word, thing)), False)
        for thing in (["none", right], ("none", right, 0), ("none",), ("None", right), ("none", list(right)), ("none", (1, 1, (JOIN,)))):
            self.assertIs(shows_fault(BINARY, T, T, some, thing), False)
        # A record of the source alone is none of the target.
        opened = Layout((1, 0, 1))
        self.assertIs(shows_fault(BINARY, T, opened, [], ("none", right)), True)
        self.assertIs(shows_fault(BINARY, T, opened, [], ("unmet", right)), False)
        self.assertIs(shows_fault(BINARY, T, opened, [], ("unmet", (0, 0, ()))), True)
        self.assertIs(shows_fault(BINARY, T, opened, [], ("none", (0, 0, ()))), False)

    def test_large_records(self):
        some = [(1, 0, 0, (("join", 0, LEAF),), 1, 0, (("join", LEAF, 0),))]
        deep = leaning(BINARY, 190, 0)
        self.assertIs(shows_fault(BINARY, T, T, some, ("none", (1, 0, (deep,)))), False)
        self.assertIs(shows_fault(BINARY, T, T, some, ("unmet", (1, 0, (deep,)))), True)
        self.assertIs(shows_fault(BINARY, T, T, some, ("unmet", (1, 0, (leaning(BINARY, 190, 1),)))), False)


class Errors(Case):
    def calls(self, *arguments):
        return [(migration_by, arguments)] + [(shows_fault, arguments + (thing,)) for thing in (None, ("none", (1, 0, (LEAF,))))]

    def test_no_kind_first(self):
        for thing in OTHERS + DEEP + LARGE + (list(BINARY), BINARY[:1]):
            for some in (None, [], [None], [(1, 0, 0, (0,), 1, 0, (0,))]):
                for call, arguments in self.calls(thing, T, T, some):
                    self.assertRaises(NoKind, call, *arguments)

    def test_no_list(self):
        for thing in OTHERS + DEEP + LARGE + (((1, 0, 0, (0,), 1, 0, (0,)),),):
            for call, arguments in self.calls(BINARY, T, T, thing):
                if isinstance(thing, list):
                    self.assert_no_row(0, call, *arguments)
                else:
                    self.assert_no_row(-1, call, *arguments)

    def test_the_first_object_that_is_no_row(self):
        right = (1, 0, 0, (0,), 1, 0, (0,))
        wrong = list(OTHERS + DEEP + LARGE) + [
            right[:6], right + (0,), list(right), (1, 1, 0, (0,), 1, 0, (0,)), (1, 0, 1, (0,), 1, 0, (0,)), (1, 0, 0, (0,), 1, 1, (0,)),
            (2, 0, 0, (0, 1), 1, 0, (0,)), (1, 0, 0, (0,), 2, 0, (0, 1)), (1, 0, 0, (0,), 0, 0, ()), (0, 0, 0, (), 0, 0, ()),
            (1, 0, 0, (1,), 1, 0, (1,)), (1, 0, 0, (("x",),), 1, 0, (LEAF,)), (1, 0, 0, (LEAF,), 1, 0, (0,)), (1, 0, 0, (0,), 1, 0, (LEAF,)),
            (1, 0, 0, (("join", 0, 0),), 1, 0, (0,)), (1, 0, 0, (("join", 1, 0),), 1, 0, (("join", 0, 1),)), (True, 0, 0, (0,), 1, 0, (0,)),
            (1, 0, False, (0,), 1, 0, (0,)), (1, 0, 0, (False,), 1, 0, (0,)), (1, 0, 0, (0,), 1, 0, (False,)), (1, -1, 0, (0,), 1, 0, (0,)),
            (1, 0, 0, [0], 1, 0, (0,)), (1, 0, 0, (0,), 1, 0, [0]), (1, 0, 0, (("join", 0),), 1, 0, (0,)), (1, 0, 0, (0,), 1, -1, (0,)),
        ]
        for thing in wrong:
            for some, place in (([thing], 0), ([right, thing, None], 1), ([right, right, thing], 2)):
                for call, arguments in self.calls(BINARY, T, T, some):
                    self.assert_no_row(place, call, *arguments)

    def test_rows_beyond_the_layouts(self):
        three = Layout((0, 3))
        for row in ((1, 0, 3, (0,), 1, 0, (0,)), (1, 1, 2, (0,), 1, 2, (0,)), (1, 0, 0, (0,), 1, 3, (0,))):
            for call, arguments in self.calls(BINARY, three, three, [row]):
                self.assert_no_row(0, call, *arguments)
        self.assert_no_row(0, migration_by, BINARY, Layout((0, 5)), three, [(1, 0, 3, (0,), 1, 0, (0,))])
        self.assert_no_row(0, migration_by, BINARY, three, Layout((0, 5)), [(1, 0, 3, (0,), 1, 0, (0,))])

    def test_no_row_ahead_of_no_table(self):
        self.assert_no_row(1, migration_by, BINARY, T, T, [(1, 0, 0, (LEAF,), 1, 0, (LEAF,)), None])
        self.assertRaises(NoTable, migration_by, BINARY, T, T, [(1, 0, 0, (LEAF,), 1, 0, (LEAF,))])


class TheInterface(Case):
    def test_the_example(self):
        some = [(1, 0, 0, (LEAF,), 1, 0, (LEAF,)), (1, 0, 0, (("join", 0, 1),), 1, 0, (("join", 1, 0),))]
        made = migration_by(BINARY, T, T, some)
        self.assertEqual(made((1, 0, (("join", LEAF, JOIN),))), (1, 0, (("join", JOIN, LEAF),)))
        self.assertIs(shows_fault(BINARY, T, T, some[1:], ("none", (1, 0, (LEAF,)))), True)
        self.assertIs(shows_fault(BINARY, T, T, some, ("none", (1, 0, (LEAF,)))), False)
        self.assertEqual(by_rows(some, (1, 0, (JOIN,))), (1, 0, (JOIN,)))

    def test_it_is_defined_in_its_file(self):
        for name in ("migration_by", "shows_fault"):
            self.assertEqual(getattr(rules, name).__module__, "layoutswap.rules")


if __name__ == "__main__":
    unittest.main()
