"""The rows of migrations (points 2, 8 and 14, stage 8 of the interface)."""

import itertools
import random
import unittest

from layoutswap import rows as rows_file
from layoutswap.errors import NoRecord, TooMany
from layoutswap.layouts import Layout
from layoutswap.migrations import Migration
from layoutswap.records import is_record, size_of_record
from layoutswap.rows import by_rows, row_of, rows, shows_rows
from oracle import BINARY, EVEN, FOUR, KINDS, MOTZKIN, OTHERS, TURNED, leaning, same
from plain_rows import filled, image_by, numbered, order_of_row, plain_rows, records_up_to
from test_migrations import walks
from things import DEEP, LARGE

LEAF = ("leaf",)
JOIN = ("join", LEAF, LEAF)
T = Layout((0, 1))
OPENED = Migration(BINARY, T, (("open", 1, 1), ("open", 2, 1)))


def chain(kind, many):
    """The steps from the layout t that open a place with one tree, then what stands last of its first tree, and so on."""
    most = max(parts for _, parts in kind)
    steps, k = [], 1
    while len(steps) < many:
        steps.append(("open", k, 1))
        k = k - 1 + most if k < 20 else k - 1
    return steps


def cuts(factor, many):
    """A migration of places without trees whose moves cut them into so many rows."""
    return Migration(BINARY, Layout((factor,)), [("move", 0, 0, 1)] * (many - 1))


def spoilt(kind, some, chance):
    """Lists of rows that are like right ones but for one thing each."""
    at = chance.randrange(len(some))
    row = some[at]
    yield some[:at] + some[at + 1:]
    yield some + [row]
    for place in (0, 1, 2, 4, 5):
        for more in (-1, 1):
            yield some[:at] + [row[:place] + (row[place] + more,) + row[place + 1:]] + some[at + 1:]
    yield some[:at] + [row[:6]] + some[at + 1:]
    yield some[:at] + [row + (0,)] + some[at + 1:]
    yield some[:at] + [list(row)] + some[at + 1:]
    yield some[:at] + [row[:6] + (list(row[6]),)] + some[at + 1:]
    yield some[:at] + [row[:3] + (list(row[3]),) + row[4:]] + some[at + 1:]
    yield some[:at] + [row[:6] + (row[6][::-1],)] + some[at + 1:]
    yield some[:at] + [row[:6] + (row[6] + (0,),)] + some[at + 1:]
    if row[3]:
        yield some[:at] + [row[:3] + (row[3][::-1],) + row[4:]] + some[at + 1:]
        leaf = next((tag,) for tag, parts in kind if not parts)
        for wrong in (leaf, True, None, -1, 99, ("x",), (leaf[0], 0), [leaf[0]], "leaf", ()):
            yield some[:at] + [row[:3] + ((wrong,) + row[3][1:],) + row[4:]] + some[at + 1:]
    if row[6]:
        for wrong in (("x",), True, 99, -1, ()):
            yield some[:at] + [row[:6] + ((wrong,) + row[6][1:],)] + some[at + 1:]


def finer(kind, some, chance):
    """The rows with one of them cut, or parted by the tags of a hole."""
    at = chance.randrange(len(some))
    k, low, high, patterns, degree, first, images = some[at]
    if low < high and chance.random() < 0.5:
        middle = chance.randint(low, high - 1)
        new = [(k, low, middle, patterns, degree, first, images)]
        new.append((k, middle + 1, high, patterns, degree, first + middle + 1 - low, images))
    elif images and any(isinstance(image, int) for image in images):
        hole = chance.choice([image for image in images if isinstance(image, int)])
        new = []
        for tag, parts in kind:
            worth = {other: other for other in range(1000)}
            worth[hole] = (tag, *range(1000, 1000 + parts))
            changed = [tuple(filled(pattern, worth) for pattern in told) for told in (patterns, images)]
            new.append(numbered((k, low, high, changed[0], degree, first, changed[1])))
    else:
        return some
    return some[:at] + new + some[at + 1:]


def tells_right(migration, thing):
    """Whether just one row of a list holds for each small record, and leads it as the migration does."""
    for record in records_up_to(migration.kind, migration.source.factors, 6, 1500):
        if [image for image in (image_by(row, record) for row in thing) if image is not None] != [migration(record)]:
            return False
    return True


class Case(unittest.TestCase):
    def assert_too_many(self, call, *arguments):
        with self.assertRaises(TooMany) as caught:
            call(*arguments)
        self.assertEqual(caught.exception.limit, 400)


class Rows(Case):
    def test_rows_by_the_words_of_the_document(self):
        for many in (0, 1, 2, 4, 8, 12):
            for migration in walks(many, 10 + many):
                found = rows(migration)
                self.assertEqual(found, plain_rows(migration.kind, migration.source.factors, migration.steps))
                self.assertIs(type(found), list)
                for row in found:
                    self.assertEqual([type(part) for part in row], [int] * 3 + [tuple] + [int] * 2 + [tuple])

    def test_rows_against_records_led_one_by_one(self):
        for migration in walks(6, 30):
            found = rows(migration)
            for record in records_up_to(migration.kind, migration.source.factors, 3):
                images = [image_by(row, record) for row in found]
                self.assertEqual([image for image in images if image is not None], [migration(record)])

    def test_rows_of_no_steps(self):
        self.assertEqual(rows(Migration.nothing(BINARY, Layout((2, 0, 3)))), [(0, 0, 1, (), 0, 0, ()), (2, 0, 2, (0, 1), 2, 0, (0, 1))])
        self.assertEqual(rows(Migration.nothing(BINARY, Layout(()))), [])
        self.assertEqual(len(rows(Migration.nothing(FOUR, Layout([10 ** 50] * 41)))), 41)

    def test_where_each_step_cuts(self):
        def told(layout, step, kind=BINARY):
            return [(row[:3], row[4:]) for row in rows(Migration(kind, Layout(layout), (step,)))]
        holes = (0,)
        cases = [
            ((0, 5), ("open", 1, 2), [((1, 0, 2), (1, 0, holes)), ((1, 3, 4), (0, 0, ())), ((1, 3, 4), (2, 0, (0, 1)))]),
            ((0, 5), ("open", 1, 5), [((1, 0, 4), (0, 0, ())), ((1, 0, 4), (2, 0, (0, 1)))]),
            ((0, 5), ("move", 1, 1, 2), [((1, 0, 0), (1, 0, holes)), ((1, 1, 2), (1, 3, holes)), ((1, 3, 4), (1, 1, holes))]),
            ((0, 5), ("move", 1, 0, 2), [((1, 0, 1), (1, 3, holes)), ((1, 2, 4), (1, 0, holes))]),
            ((0, 5), ("move", 1, 3, 2), [((1, 0, 2), (1, 0, holes)), ((1, 3, 4), (1, 3, holes))]),
            ((0, 5), ("move", 1, 0, 5), [((1, 0, 4), (1, 0, holes))]),
            ((0, 0, 3), ("turn", 2, 1, 2), [((2, 0, 1), (2, 0, (0, 1))), ((2, 2, 2), (2, 2, (1, 0)))]),
            ((0, 0, 3), ("turn", 2, 3, 2), [((2, 0, 2), (2, 0, (1, 0)))]),
            ((3, 4, 2), ("close", 1, 2), [
                ((0, 0, 0), (0, 0, ())), ((0, 1, 2), (1, 4, (LEAF,))), ((1, 0, 3), (1, 0, holes)),
                ((2, 0, 1), (1, 4, (("join", 0, 1),))),
            ]),
        ]
        for layout, step, rows_told in cases:
            self.assertEqual(told(layout, step), rows_told)
        # Two variants of as many parts: each one's places are cut off.
        self.assertEqual(told((5, 2, 4), ("close", 1, 2), EVEN), [
            ((0, 0, 0), (0, 0, ())), ((0, 1, 2), (1, 0, (("a",),))), ((0, 3, 4), (1, 0, (("b",),))),
            ((1, 0, 1), (1, 0, (("u", 0),))), ((2, 0, 1), (1, 0, (("j", 0, 1),))), ((2, 2, 3), (1, 0, (("k", 0, 1),))),
        ])

    def test_only_places_that_are_parted_are_cut(self):
        migration = Migration(BINARY, Layout((4, 4, 4)), (("move", 1, 1, 2),))
        self.assertEqual([row[:3] for row in rows(migration)], [(0, 0, 3), (1, 0, 0), (1, 1, 2), (1, 3, 3), (2, 0, 3)])

    def test_rows_are_never_joined(self):
        migration = OPENED >> ~OPENED
        self.assertEqual(len(rows(migration)), 3)
        self.assertEqual([row[3] for row in rows(migration)], [row[6] for row in rows(migration)])
        self.assertEqual([row[3] for row in rows(migration)], [(LEAF,), (("join", LEAF, 0),), (("join", ("join", 0, 1), 2),)])
        moved = Migration(BINARY, Layout((3,)), (("move", 0, 1, 1), ("move", 0, 1, 1)))
        self.assertEqual([row[1:3] for row in rows(moved)], [(0, 0), (1, 1), (2, 2)])

    def test_the_order(self):
        for kind in KINDS:
            migration = Migration(kind, T, chain(kind, 12))
            found = rows(migration)
            self.assertEqual(found, sorted(found, key=lambda row: order_of_row(kind, row)))
        # A hole stands ahead of a tag, at the first place with both.
        two = Migration(TURNED, Layout((0, 0, 2)), (("open", 2, 1), ("move", 1, 0, 1), ("turn", 3, 1, 3), ("open", 3, 1)))
        self.assertEqual([row[1:4] for row in rows(two)], sorted((row[1:4] for row in rows(two)), key=lambda told: (
            told[0], tuple(order_of_row(TURNED, (0, 0, 0, told[2]))))))

    def test_just_400_rows(self):
        for kind in (BINARY, TURNED, MOTZKIN, FOUR):
            more = len(kind) - 1
            many = 399 // more
            found = rows(Migration(kind, T, chain(kind, many)))
            self.assertEqual(len(found), 1 + many * more)
            self.assert_too_many(rows, Migration(kind, T, chain(kind, many + 1)))
        self.assertEqual(len(rows(cuts(500, 400))), 400)
        self.assert_too_many(rows, cuts(500, 401))
        # Also if rows come to be more behind a step alone, and none of them are seen in the target.
        beyond = Migration(BINARY, T, chain(BINARY, 400))
        self.assert_too_many(rows, beyond >> ~beyond)

    def test_many_steps(self):
        migration = Migration(MOTZKIN, Layout((9, 2, 9)), [("close", 1, 1), ("turn", 2, 1, 2), ("move", 1, 0, 1), ("open", 1, 1)] * 5000)
        found = rows(migration)
        for record in records_up_to(MOTZKIN, (9, 2, 9), 2, 60):
            self.assertTrue(same(by_rows(found, record), migration(record)))

    def test_deep_images(self):
        kind = (("a", 0), ("u", 1), ("c", 2))
        migration = Migration(kind, Layout((5000, 1, 5000)), [("close", 1, 1)] * 5000)
        record = (1, 0, (leaning(kind, 50, 0),))
        found = rows(Migration(kind, Layout((150, 1, 150)), [("close", 1, 1)] * 150))
        self.assertEqual(len(found), 301)
        self.assert_too_many(rows, migration)
        self.assertEqual(size_of_record(by_rows(found, record)), 249)


class RowOf(Case):
    def test_the_row_that_holds(self):
        for migration in walks(6, 31):
            found = rows(migration)
            for record in records_up_to(migration.kind, migration.source.factors, 2, 40):
                holding = [row for row in found if image_by(row, record) is not None]
                self.assertEqual([row_of(migration, record)], holding)

    def test_no_record_then_too_many(self):
        beyond = Migration(BINARY, T, chain(BINARY, 400))
        for thing in OTHERS + DEEP + LARGE + ((0, 0, ()), (1, 1, (LEAF,)), (1, 0, [LEAF]), (1, 0, (("x",),))):
            self.assertRaises(NoRecord, row_of, OPENED, thing)
            self.assertRaises(NoRecord, row_of, beyond, thing)
        self.assert_too_many(row_of, beyond, (1, 0, (LEAF,)))

    def test_great_records(self):
        record = (1, 0, (leaning(BINARY, 190, 0),))
        self.assertEqual(row_of(OPENED, record), (1, 0, 0, (("join", ("join", 0, 1), 2),), 3, 0, (0, 1, 2)))
        images = OPENED(record)
        self.assertTrue(same(by_rows(rows(OPENED), record), images))


class ByRows(Case):
    def test_the_first_row_that_holds_leads(self):
        some = [(1, 1, 2, (0,), 2, 5, (0, LEAF)), (1, 0, 9, (JOIN,), 0, 0, ()), (1, 2, 3, (("join", 0, 1),), 2, 7, (1, 0))]
        cases = [
            ((1, 0, (LEAF,)), None), ((1, 1, (LEAF,)), (2, 5, (LEAF, LEAF))), ((1, 2, (JOIN,)), (2, 6, (JOIN, LEAF))),
            ((1, 3, (JOIN,)), (0, 3, ())), ((1, 3, (("join", JOIN, LEAF),)), (2, 8, (LEAF, JOIN))), ((1, 3, (LEAF,)), None),
            ((0, 1, ()), None), ((2, 1, (LEAF, LEAF)), None), ((1, 10, (JOIN,)), None), ((1, 9, (JOIN,)), (0, 9, ())),
        ]
        for record, image in cases:
            self.assertEqual(by_rows(some, record), image)
            self.assertIsNone(by_rows([], record))
        self.assertEqual(by_rows(some[::-1], (1, 2, (JOIN,))), (2, 7, (LEAF, LEAF)))

    def test_as_the_migration(self):
        for migration in walks(7, 32):
            found = rows(migration)
            for record in records_up_to(migration.kind, migration.source.factors, 3, 60):
                self.assertEqual(by_rows(found, record), migration(record))
                self.assertEqual(by_rows(found[::-1], record), migration(record))

    def test_large_records_that_were_returned(self):
        kind = (("a", 0), ("u", 1), ("c", 2))
        tall = Migration(kind, Layout((5000, 1, 5000)), [("close", 1, 1)] * 5000)
        record = tall((1, 0, (leaning(kind, 150, 0),)))
        again = Migration(kind, tall.target, [("open", 1, 1)])
        self.assertTrue(is_record(kind, again.source, record))
        self.assertTrue(same(by_rows(rows(again), record), again(record)))
        self.assertEqual(row_of(again, record)[:3], (1, 0, 0))


class ShowsRows(Case):
    def test_right_rows_in_any_order(self):
        chance = random.Random(1)
        for migration in walks(5, 33):
            found = rows(migration)
            self.assertIs(shows_rows(migration, found), True)
            chance.shuffle(found)
            self.assertIs(shows_rows(migration, found), True)
            for _ in range(4):
                found = finer(migration.kind, found, chance) if found else found
            self.assertIs(shows_rows(migration, found), True)

    def test_coarser_rows(self):
        self.assertIs(shows_rows(OPENED >> ~OPENED, [(1, 0, 0, (0,), 1, 0, (0,))]), True)
        self.assertIs(shows_rows(cuts(500, 400), rows(cuts(500, 400))), True)
        # A place is moved to the end and back again, and one row tells both.
        still = Migration(BINARY, Layout((500,)), [("move", 0, 0, 1), ("move", 0, 0, 499)])
        self.assertEqual(len(rows(still)), 2)
        self.assertIs(shows_rows(still, [(0, 0, 499, (), 0, 0, ())]), True)

    def test_spoilt_rows(self):
        chance = random.Random(2)
        wrong = 0
        for many in (1, 3):
            for migration in walks(many, 34 + many):
                found = rows(migration)
                for thing in spoilt(migration.kind, found, chance) if found else ():
                    told = shows_rows(migration, thing)
                    wrong += not told
                    self.assertIs(type(told), bool)
                    if told:
                        self.assertTrue(tells_right(migration, thing))
                    else:
                        self.assert_spoilt(migration, thing)
        self.assertGreater(wrong, 500)

    def assert_spoilt(self, migration, thing):
        """A list that is refused has a wrong form, or it leads a small record wrongly."""
        self.assertTrue(not self.have_form(migration, thing) or not tells_right(migration, thing), thing)

    def have_form(self, migration, thing):
        numbers = dict(migration.kind)

        def is_pattern(part):
            if type(part) is int:
                return True
            return type(part) is tuple and bool(part) and numbers.get(part[0]) == len(part) - 1 and all(map(is_pattern, part[1:]))

        for row in thing:
            if type(row) is not tuple or len(row) != 7 or not all(type(row[at]) is int and row[at] >= 0 for at in (0, 1, 2, 4, 5)):
                return False
            if type(row[3]) is not tuple or type(row[6]) is not tuple or not all(map(is_pattern, row[3] + row[6])):
                return False
            if (len(row[3]), len(row[6])) != (row[0], row[4]):
                return False
            if row[1] > row[2] or row[2] >= migration.source[row[0]]:
                return False
            holes = [[hole for pattern in told for hole in self.holes(pattern)] for told in (row[3], row[6])]
            if holes[0] != list(range(len(holes[0]))) or sorted(holes[1]) != holes[0]:
                return False
        return True

    def holes(self, pattern):
        return [pattern] if isinstance(pattern, int) else [hole for part in pattern[1:] for hole in self.holes(part)]

    def test_wrong_rows_that_only_few_records_show(self):
        two = Migration(BINARY, Layout((0, 0, 1)), (("turn", 2, 1, 2),))
        right = rows(two)
        self.assertEqual(right, [(2, 0, 0, (0, 1), 2, 0, (1, 0))])
        deep = ("join", 0, ("join", 1, ("join", 2, LEAF)))
        parts = [
            (LEAF,), (("join", 0, LEAF),), (("join", 0, ("join", 1, LEAF)),),
            (("join", 0, ("join", 1, ("join", 2, ("join", 3, 4)))),), (deep,),
        ]
        still = [(1, 0, 0, part, 1, 0, part) for part in parts]
        nothing = Migration.nothing(BINARY, T)
        self.assertIs(shows_rows(nothing, still), True)
        self.assertIs(shows_rows(nothing, still[:-1]), False)
        turned = ("join", 1, ("join", 0, ("join", 2, LEAF)))
        self.assertIs(shows_rows(nothing, still[:-1] + [(1, 0, 0, (deep,), 1, 0, (turned,))]), False)
        self.assertIs(shows_rows(nothing, still + [(1, 0, 0, (("join", LEAF, 0),), 1, 0, (("join", LEAF, 0),))]), False)
        # No single tree tells these apart from a table: the shares of what is missing and what is told twice are equal.
        self.assertIs(shows_rows(nothing, still[:1] * 2 + still[2:]), False)
        self.assertIs(shows_rows(nothing, [still[0]] * 2), False)

    def test_rows_that_are_no_decision_after_another(self):
        # Five rows of three trees, of which no single tree parts the rows.
        a, b = LEAF, ("join", 8, 9)
        forms = [(a, b, 0), (0, a, b), (b, 0, a), (a, a, a), (b, b, b)]
        some = []
        for form in forms:
            some.append(self.row_of_form(form))
        nothing = Migration.nothing(BINARY, Layout((0, 0, 0, 1)))
        for order in itertools.islice(itertools.permutations(some), 0, 120, 7):
            self.assertIs(shows_rows(nothing, list(order)), True)
        for at in range(5):
            self.assertIs(shows_rows(nothing, some[:at] + some[at + 1:]), False)

    def row_of_form(self, form):
        """A row for no change whose patterns have this form."""
        found, many = [], 0
        for part in form:
            if isinstance(part, int):
                found.append(many)
                many += 1
            elif part == LEAF:
                found.append(LEAF)
            else:
                found.append(("join", many, many + 1))
                many += 2
        return (3, 0, 0, tuple(found), 3, 0, tuple(found))

    def test_other_objects(self):
        for thing in OTHERS + DEEP + LARGE:
            for migration in (OPENED, Migration.nothing(BINARY, Layout(()))):
                self.assertIs(shows_rows(migration, thing), False)
                self.assertIs(shows_rows(migration, [thing]), False)
                self.assertIs(shows_rows(migration, rows(migration) + [thing]), False)
            for at in range(7):
                row = (1, 0, 0, (0,), 1, 0, (0,))
                told = shows_rows(Migration.nothing(BINARY, T), [row[:at] + (thing,) + row[at + 1:]])
                self.assertIs(told, thing is not True and thing is not False and (thing == row[at] or thing == (0,) == row[at]))
        self.assertIs(shows_rows(Migration.nothing(BINARY, Layout(())), []), True)
        self.assertIs(shows_rows(OPENED, []), False)
        self.assertIs(shows_rows(OPENED, tuple(rows(OPENED))), False)
        self.assertIs(shows_rows(OPENED, {0: rows(OPENED)}), False)

    def test_too_many_comes_first(self):
        beyond = Migration(BINARY, T, chain(BINARY, 400))
        for thing in (None, [], [(1, 0, 0, (0,), 1, 0, (0,))], rows(OPENED)):
            self.assert_too_many(shows_rows, beyond, thing)

    def test_many_rows(self):
        migration = Migration(BINARY, T, chain(BINARY, 399))
        found = rows(migration)
        self.assertIs(shows_rows(migration, found[::-1]), True)
        self.assertIs(shows_rows(migration, found[:-1]), False)
        self.assertIs(shows_rows(cuts(500, 400), rows(cuts(500, 400))[::-1]), True)


class TheInterface(Case):
    def test_the_example(self):
        kind, t = (("leaf", 0), ("join", 2)), Layout((0, 1))
        m = Migration(kind, t, (("open", 1, 1), ("open", 2, 1)))
        self.assertEqual(rows(m), [
            (1, 0, 0, (("leaf",),), 0, 0, ()), (1, 0, 0, (("join", ("leaf",), 0),), 1, 0, (0,)),
            (1, 0, 0, (("join", ("join", 0, 1), 2),), 3, 0, (0, 1, 2)),
        ])
        self.assertEqual([shows_rows(m, rows(m)[::-1]), shows_rows(m, rows(m)[1:])], [True, False])

    def test_new_lists(self):
        found = rows(OPENED)
        kept = list(found)
        found.pop()
        self.assertEqual(rows(OPENED), kept)
        shows_rows(OPENED, kept)
        by_rows(kept, (1, 0, (LEAF,)))
        self.assertEqual(rows(OPENED), kept)

    def test_it_is_defined_in_its_file(self):
        for name in ("rows", "row_of", "by_rows", "shows_rows"):
            self.assertEqual(getattr(rows_file, name).__module__, "layoutswap.rows")


if __name__ == "__main__":
    unittest.main()
