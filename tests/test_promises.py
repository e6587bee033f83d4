"""What the document promises over the whole program (points 1, 2 and 22)."""

import ast
import copy
import importlib
import random
import re
import unittest
from pathlib import Path

from layoutswap.alike import are_alike, changes_nothing, first_difference
from layoutswap.console import Console
from layoutswap.errors import NoTable, NotLike, TooMany
from layoutswap.fewest import closed_paper, distance, price_paper, shortest, shows_apart, shows_distance
from layoutswap.finder import migration_to
from layoutswap.layouts import Layout
from layoutswap.migrations import Migration
from layoutswap.records import how_many_records, is_record, records_of, size_of_record
from layoutswap.rests import are_like
from layoutswap.rows import by_rows, row_of, rows, shows_rows
from layoutswap.rules import migration_by, shows_fault
from layoutswap.staying import first_staying, staying
from layoutswap.store import Store
from layoutswap.texts import (
    format_kind, format_layout, format_record, format_steps, format_tree, parse_kind, parse_layout, parse_record, parse_steps, parse_tree,
)
from loops import in_turn, loop, loops
from oracle import BINARY, EVEN, FOUR, KINDS, MOTZKIN
from tables import table, weight
from test_migrations import walks

PACKAGE = Path(__file__).resolve().parent.parent / "layoutswap"
# What the interface lists, by the file under which it stands.
INTERFACE = {
    "errors": "LayoutError TooMany SyntaxProblem NoStep NoRow NoTable NotLike NoKind NoLayout NoTree NoRecord NoName NoNumber NoEra NoMark "
              "Mismatch InvalidCommand",
    "names": "is_name is_integer", "kinds": "is_kind tags_of parts_of polynomial difference", "layouts": "Layout",
    "trees": "is_tree size_of how_many trees_of tree_number numbered_tree",
    "records": "is_record size_of_record how_many_records records_of record_number numbered_record into_sum from_sum into_product from_product",
    "rests": "Rest are_like quotient period multiple", "steps": "is_step layout_behind record_behind record_ahead", "migrations": "Migration",
    "finder": "led migration_to", "rows": "rows row_of by_rows shows_rows", "alike": "first_difference are_alike changes_nothing",
    "staying": "staying first_staying", "fewest": "distance shortest price_paper closed_paper shows_distance shows_apart", "store": "Store View",
    "texts": "parse_kind parse_layout parse_tree parse_record parse_steps format_kind format_layout format_tree format_record format_steps",
    "console": "Console", "rules": "migration_by shows_fault",
}


class Migrations(unittest.TestCase):
    def test_one_to_one_and_onto_as_the_rows_tell_and_back(self):
        for many in (1, 3, 5):
            for migration in walks(many, 90 + many):
                self.check_migration(migration)

    def check_migration(self, migration):
        kind, some = migration.kind, rows(migration)
        images = {}
        for record in in_turn(kind, migration.source, 3, 120):
            image = migration(record)
            self.assertTrue(is_record(kind, migration.target, image))
            self.assertNotIn(image, images)
            images[image] = record
            self.assertEqual([migration.back(image), by_rows(some, record), by_rows([row_of(migration, record)], record)], [record, image, image])
        for image in in_turn(kind, migration.target, 2, 60):
            self.assertEqual(migration(migration.back(image)), image)

    def test_tables_and_migrations_make_each_other(self):
        chance = random.Random(1)
        for kind in KINDS:
            for factors in ((0, 1), (1, 2, 1), (0, 0, 0, 2)):
                layout = Layout(factors)
                some = table(kind, factors, chance.randint(0, 20), chance)
                made = migration_by(kind, layout, layout, some)
                self.assertTrue(shows_rows(made, some))
                told = rows(made)
                self.assertTrue(shows_rows(made, told))
                if len(told) <= 12 and weight(kind, told) <= 36:
                    self.assertTrue(are_alike(migration_by(kind, layout, layout, told), made))
                back = ~made
                self.assertTrue(changes_nothing(made >> back))
                for record in in_turn(kind, layout, 3, 40):
                    self.assertEqual(back(made(record)), record)

    def test_a_list_that_is_no_table_has_a_record_that_shows_it(self):
        chance = random.Random(2)
        for kind in KINDS:
            layout = Layout((1, 1, 2))
            for _ in range(5):
                some = table(kind, (1, 1, 2), chance.randint(1, 10), chance)
                some.pop(chance.randrange(len(some)))
                with self.assertRaises(NoTable) as caught:
                    migration_by(kind, layout, layout, some)
                self.assertIs(shows_fault(kind, layout, layout, some, caught.exception.fault), True)

    def test_alike_or_a_first_record(self):
        chance = random.Random(3)
        for migration in walks(3, 95):
            other = loop(migration, 2, chance) >> migration
            found = first_difference(migration, other)
            self.assertIs(are_alike(migration, other), found is None)
            self.assertIs(changes_nothing(migration >> ~other), found is None)
            if found is not None:
                self.assertNotEqual(migration(found), other(found))
                ahead = [record for record in in_turn(migration.kind, migration.source, 3) if migration(record) != other(record)]
                self.assertEqual(ahead[:1] or [found], [found])

    def test_migrations_by_tables_against_records_led_one_by_one(self):
        chance = random.Random(5)
        starts = [(BINARY, (0, 1), 9), (BINARY, (0, 2, 1), 7), (MOTZKIN, (1, 1, 1), 5), (EVEN, (0, 1), 4), (FOUR, (0, 0, 1), 10)]
        for kind, factors, sizes in starts * 3:
            layout = Layout(factors)
            one, other = [migration_by(kind, layout, layout, table(kind, factors, chance.randint(1, 30), chance)) for _ in range(2)]
            records = [record for size in range(sizes + 1) for record in records_of(kind, layout, size)]
            made = [one, other, one >> other, ~other >> one >> other, one ** 3]
            images = [[migration(record) for record in records] for migration in made]
            for at, migration in enumerate(made):
                self.check_staying(migration, records, images[at], sizes)
                for more in range(at):
                    self.check_difference(migration, made[more], [
                        record for record, image, told in zip(records, images[at], images[more]) if image != told
                    ])

    def check_staying(self, migration, records, images, sizes):
        """Compare with the records that stay, all of them up to some size."""
        stayed = [record for record, image in zip(records, images) if record == image]
        for size in range(sizes + 1):
            self.assertEqual(staying(migration, size), sum(size_of_record(record) == size for record in stayed))
        if stayed:
            self.assertEqual(first_staying(migration), stayed[0])

    def check_difference(self, one, other, different):
        """Compare with the records that are led to two different ones, all of them up to some size."""
        self.assertIs(are_alike(one, other), first_difference(one, other) is None)
        if different:
            self.assertEqual(first_difference(one, other), different[0])

    def test_the_records_that_stay_are_counted_for_each_size(self):
        for migration in loops(2, 97):
            for size in range(6):
                if how_many_records(migration.kind, migration.source, size) < 3000:
                    right = [record for record in records_of(migration.kind, migration.source, size) if migration(record) == record]
                    self.assertEqual(staying(migration, size), len(right))
            still = Migration.nothing(migration.kind, migration.source)
            self.assertEqual(staying(still, 60), how_many_records(migration.kind, migration.source, 60))

    def test_like_layouts_and_ways_between_them(self):
        for kind in KINDS:
            layouts = [Layout(factors) for factors in ((0, 1), (1, 0, 1), (0, 0, 1), (2,), (), (1, 1, 0, 1), (0, 2), (2, 1, 2))]
            for one in layouts:
                for other in layouts:
                    if are_like(kind, one, other):
                        made = migration_to(kind, one, other)
                        self.assertEqual((made.source, made.target), (one, other))
                    else:
                        self.assertRaises(NotLike, migration_to, kind, one, other)
                    self.check_distance(kind, one, other)

    def check_distance(self, kind, one, other):
        """The papers show what the distance is, and a way has as many steps."""
        arguments = (kind, one, other, 5, 4)
        far = distance(*arguments)
        if far is None:
            self.assertTrue(shows_apart(*arguments, closed_paper(*arguments)))
        else:
            self.assertTrue(are_like(kind, one, other))
            self.assertTrue(shows_distance(*arguments, far, price_paper(*arguments)))
            self.assertEqual(len(shortest(*arguments)), far + 1)


class Stores(unittest.TestCase):
    def test_what_is_put_through_one_view_is_read_through_each(self):
        chance = random.Random(4)
        for migration in walks(4, 98):
            store = Store(migration.kind, migration.source, most=40)
            layouts, steps = [migration.source], list(migration.steps)
            for step in steps:
                layouts.append(Migration(migration.kind, layouts[-1], [step]).target)
                store.migrate([step])
            views = [store.view(era) for era in range(len(layouts))]
            for at in range(30):
                number = chance.randrange(len(layouts))
                records = in_turn(migration.kind, layouts[number], 2, 30)
                if records:
                    record = chance.choice(records)
                    # No record of the era's layout is refused.
                    views[number][f"n{at % 7}"] = record
                    self.check_views(migration, layouts, views, store, f"n{at % 7}", number, record)
            self.check_equal_records(store, views)

    def check_views(self, migration, layouts, views, store, name, number, record):
        """A record that was put through the view of an era is read through all others as the migrations lead it."""
        for era, view in enumerate(views):
            low, high = sorted((era, number))
            between = Migration(migration.kind, layouts[low], migration.steps[low:high])
            self.assertEqual(view[name], between(record) if era >= number else between.back(record))
        self.assertEqual(store[name], views[-1][name])

    def check_equal_records(self, store, views):
        """Two names have equal records in one view if and only if they have in each."""
        for one in store.names():
            for other in store.names():
                self.assertEqual(len({view[one] == view[other] for view in views}), 1)

    def test_notes_do_the_same_again(self):
        console = Console()
        lines = [
            "put a : 1.0[join(leaf, leaf)]", "migrate : open 1 1", "write 0 b : 1.0[leaf]", "relayout : t^2 + 1", "relayout : t", "drop a",
            "write 1 c : 2.0[leaf, join(leaf, leaf)]", "undo", "redo", "undo", "undo", "put d : 1.0[leaf]",
        ]
        for line in lines:
            console.execute(line)
        again = Console()
        for line in console.execute("notes").split("\n"):
            again.execute(line)
        for line in ("notes", "names", "eras", "layout", "see 1 b", "get d", "see 0 a"):
            self.assertEqual(again.execute(line), console.execute(line))


class Texts(unittest.TestCase):
    def test_texts_tell_what_they_were_made_of(self):
        for migration in walks(3, 99):
            self.assertEqual(parse_kind(format_kind(migration.kind)), migration.kind)
            self.assertEqual(parse_layout(format_layout(migration.target)), migration.target)
            self.assertEqual(parse_steps(format_steps(migration.steps)), migration.steps)
            for record in in_turn(migration.kind, migration.source, 2, 20):
                self.assertEqual(parse_record(format_record(record)), record)
                for tree in record[2]:
                    self.assertEqual(parse_tree(format_tree(tree)), tree)


class Arguments(unittest.TestCase):
    def test_arguments_are_not_modified(self):
        some = [(1, 0, 0, (("leaf",),), 1, 0, (("leaf",),)), (1, 0, 0, (("join", 0, 1),), 1, 0, (("join", 1, 0),))]
        layout, migration = Layout((0, 1)), Migration(BINARY, Layout((0, 1)), (("open", 1, 1),))
        steps, paper, closed = [("open", 1, 1)], {(0, 1): 0, (1, 0, 1): 1}, [(0, 1), ()]
        operations = [("put", "a", (1, 0, (("leaf",),))), ("migrate", steps), ("drop", "a")]
        kept = copy.deepcopy([some, steps, paper, closed, operations])
        made = migration_by(BINARY, layout, layout, some)
        shows_fault(BINARY, layout, layout, some, ("none", (1, 0, (("leaf",),))))
        by_rows(some, (1, 0, (("leaf",),)))
        shows_rows(made, some)
        shows_distance(BINARY, layout, Layout((1, 0, 1)), 3, 3, 2, paper)
        shows_apart(BINARY, layout, layout, 3, 3, closed)
        store = Store(BINARY, layout)
        store.all_done(operations)
        store.undo()
        self.assertEqual([some, steps, paper, closed, operations], kept)
        # What was passed may be changed afterwards.
        steps.append(None)
        operations.clear()
        some.clear()
        self.assertEqual(store.notes()[1], ("migrate", (("open", 1, 1),)))
        self.assertEqual((layout.factors, len(migration), made((1, 0, (("leaf",),)))), ((0, 1), 1, (1, 0, (("leaf",),))))

    def test_what_is_returned_is_new(self):
        migration = Migration(BINARY, Layout((0, 1)), (("open", 1, 1),))
        calls = [
            lambda: rows(migration), lambda: shortest(BINARY, migration.source, migration.target, 3, 3),
            lambda: price_paper(BINARY, migration.source, migration.target, 3, 3),
            lambda: closed_paper(BINARY, migration.source, Layout((1,)), 3, 3),
        ]
        for call in calls:
            kept = copy.copy(call())
            call().clear()
            self.assertEqual(call(), kept)


class TheWholePackage(unittest.TestCase):
    def test_each_name_of_the_interface_is_defined_in_its_file(self):
        for file, names in INTERFACE.items():
            module = importlib.import_module(f"layoutswap.{file}")
            tree = ast.parse((PACKAGE / f"{file}.py").read_text(encoding="utf-8"))
            defined = {node.name for node in tree.body if isinstance(node, (ast.FunctionDef, ast.ClassDef))}
            for name in names.split():
                self.assertIn(name, defined)
                self.assertEqual(getattr(module, name).__module__, module.__name__)

    def test_no_clock_no_chance_no_files(self):
        for path in PACKAGE.glob("*.py"):
            for node in ast.walk(ast.parse(path.read_text(encoding="utf-8"))):
                if isinstance(node, ast.ImportFrom):
                    self.assertTrue(re.match(r"layoutswap\.|math$", node.module), node.module)
                self.assertNotIsInstance(node, (ast.Import, ast.Div))
                self.assertNotIsInstance(getattr(node, "value", None), float)

    def test_bounds_are_told_with_their_limits(self):
        beyond = Migration(BINARY, Layout((500,)), [("move", 0, 0, 1)] * 400)
        calls = [
            (400, lambda: rows(beyond)), (400, lambda: first_difference(beyond, beyond)), (400, lambda: first_staying(beyond)),
            (40, lambda: Layout((1,)) << 41), (7, lambda: migration_to(BINARY, Layout([0] * 8 + [1]), Layout((0, 1)))),
            (1, lambda: Store(BINARY, Layout((1,)), most=1).all_done([("put", name, (0, 0, ())) for name in "ab"])),
        ]
        for limit, call in calls:
            with self.assertRaises(TooMany) as caught:
                call()
            self.assertEqual(caught.exception.limit, limit)


if __name__ == "__main__":
    unittest.main()
