"""Stores and their views (points 2, 16, 17, 18 and 22, stage 11 of the interface)."""

import random
import unittest

from layoutswap import store as store_file
from layoutswap.errors import LayoutError, Mismatch, NoEra, NoKind, NoMark, NoName, NoRecord, NoStep, NotLike, TooMany
from layoutswap.finder import led
from layoutswap.layouts import Layout
from layoutswap.migrations import Migration
from layoutswap.records import numbered_record
from layoutswap.rests import are_like
from layoutswap.steps import layout_behind, record_ahead, record_behind
from layoutswap.store import Store
from oracle import BINARY, EVEN, FOUR, HALVES, KINDS, MOTZKIN, OTHERS, TURNED, leaning, same
from test_steps import all_steps
from things import DEEP, LARGE

LEAF = ("leaf",)
JOIN = ("join", LEAF, LEAF)
T = Layout((0, 1))
NAMES = ("a", "b", "c1", "d", "x2345678", "zz")


class Model:
    """A store by the words of points 16 and 17: each record is led step by step, and all states are kept."""

    def __init__(self, kind, layout, most):
        self.kind, self.most = kind, most
        self.begun = 0
        # A state: the records, the eras as (a number of their own, layout, steps ahead of it), the notes.
        self.states = [({}, [(0, layout, ())], [])]
        self.at = 0

    def records(self):
        return self.states[self.at][0]

    def eras(self):
        return self.states[self.at][1]

    def layout(self):
        return self.eras()[-1][1]

    def go_on(self, records, eras, note):
        self.states[self.at + 1:] = [(records, eras, self.states[self.at][2] + [note])]
        self.at += 1

    def put(self, name, record):
        self.go_on({**self.records(), name: record}, self.eras(), ("put", name, record))

    def drop(self, name):
        self.go_on({key: record for key, record in self.records().items() if key != name}, self.eras(), ("drop", name))

    def new_era(self, steps):
        layout = self.layout()
        for step in steps:
            layout = layout_behind(self.kind, layout, step)
        self.begun += 1
        return (self.begun, layout, tuple(steps))

    def migrate(self, steps):
        records = {name: self.forth(self.layout(), steps, record) for name, record in self.records().items()}
        self.go_on(records, self.eras() + [self.new_era(steps)], ("migrate", tuple(steps)))

    def undo(self):
        self.at -= 1

    def redo(self):
        self.at += 1
        records, eras, notes = self.states[self.at]
        if notes[-1][0] == "migrate":
            # The era begins anew; so do those that come to be with it in states behind it, each when it is done again.
            self.begun += 1
            old = eras[-1][0]
            self.states[self.at:] = [
                (told, [(self.begun, *era[1:]) if era[0] == old else era for era in stages], note)
                for told, stages, note in self.states[self.at:]
            ]

    def forth(self, layout, steps, record):
        for step in steps:
            record = record_behind(self.kind, layout, step, record)
            layout = layout_behind(self.kind, layout, step)
        return record

    def back(self, layout, steps, record):
        layouts = [layout]
        for step in steps:
            layouts.append(layout_behind(self.kind, layouts[-1], step))
        for ahead, step in list(zip(layouts, steps))[::-1]:
            record = record_ahead(self.kind, ahead, step, record)
        return record

    def is_present(self, view):
        number, begun = view
        return number < len(self.eras()) and self.eras()[number][0] == begun

    def seen(self, number, name):
        """The record under a name in the layout of an era."""
        record = self.records()[name]
        for (_, ahead, _), (_, _, steps) in list(zip(self.eras(), self.eras()[1:]))[number:][::-1]:
            record = self.back(ahead, steps, record)
        return record

    def put_through(self, number, name, record):
        for (_, ahead, _), (_, _, steps) in list(zip(self.eras(), self.eras()[1:]))[number:]:
            record = self.forth(ahead, steps, record)
        self.put(name, record)


class Case(unittest.TestCase):
    def assert_limit(self, limit, call, *arguments):
        with self.assertRaises(TooMany) as caught:
            call(*arguments)
        self.assertEqual(caught.exception.limit, limit)

    def assert_no_step(self, place, call, *arguments):
        with self.assertRaises(NoStep) as caught:
            call(*arguments)
        self.assertEqual(caught.exception.place, place)


class Play(Case):
    """Histories by chance, in a store and in its model."""

    def compare(self):
        """Compare all that is shown of the store with its model."""
        store, model = self.store, self.model
        self.assertEqual((store.kind, store.most), (model.kind, model.most))
        self.assertEqual((store.layout, store.era, len(store)), (model.layout(), len(model.eras()) - 1, len(model.records())))
        self.assertEqual([layout.factors for layout in store.eras()], [era[1].factors for era in model.eras()])
        self.assertEqual(store.names(), sorted(model.records()))
        self.assertEqual(store.notes(), model.states[model.at][2])
        for name in NAMES:
            self.assertIs(name in store, name in model.records())
            if name in store:
                self.assertEqual(store[name], model.records()[name])
            else:
                self.assertRaises(NoName, store.__getitem__, name)
        for view, told in self.views:
            self.compare_view(view, told)

    def compare_view(self, view, told):
        """Compare a view with the model."""
        model = self.model
        if not model.is_present(told):
            self.check_ended(view)
            return
        self.assertEqual((view.era, view.shape, len(view)), (told[0], model.eras()[told[0]][1], len(model.records())))
        for name in NAMES:
            self.assertIs(name in view, name in model.records())
            if name in view:
                self.assertEqual(view[name], model.seen(told[0], name))
            else:
                self.assertRaises(NoName, view.__getitem__, name)

    def check_ended(self, view):
        """Whatever is done with the view of an era that has ended, it is refused with NoEra."""
        uses = [
            lambda: view.era, lambda: view.shape, lambda: len(view), lambda: "a" in view, lambda: None in view, lambda: view["a"],
            lambda: view[None], lambda: view.__setitem__("a", None), lambda: view.__setitem__(0, (0, 0, ())),
            lambda: view.__setitem__("a", (0, 0, ())),
        ]
        for use in uses:
            self.assertRaises(NoEra, use)

    def some_record(self, layout):
        """A record of a layout by chance, or sometimes something that is none."""
        if self.chance.random() < 0.1 or layout.factors == ():
            return self.chance.choice([None, (0, 10 ** 9, ()), (1, 0, ()), [], (3, -1, ())])
        return numbered_record(self.kind, layout, self.chance.choice((0, 1, 2, 5, 20, 300)))

    def some_steps(self, layout):
        """A few steps at a layout by chance, with few places behind them; sometimes a wrong one among them."""
        steps = []
        for _ in range(self.chance.randint(0, 3)):
            possible = [step for step in all_steps(self.kind, layout) if layout_behind(self.kind, layout, step).total <= 10]
            if possible:
                steps.append(self.chance.choice(possible))
                layout = layout_behind(self.kind, layout, steps[-1])
        if self.chance.random() < 0.1:
            steps.insert(self.chance.randint(0, len(steps)), self.chance.choice([None, ("open", 0, 1), ("move", 1, 0, 99), "open"]))
        return self.chance.choice((list, tuple))(steps)

    def some_operation(self, layout):
        """An operation by chance, and whether it is right, by what the model has."""
        word = self.chance.choice(("put", "put", "drop", "migrate", "wrong"))
        if word == "put":
            return ("put", self.chance.choice(NAMES), self.some_record(layout))
        if word == "drop":
            return ("drop", self.chance.choice(NAMES))
        if word == "migrate":
            return ("migrate", self.some_steps(layout))
        return self.chance.choice([None, ("put", "a"), ("drop",), ("take", "a"), ["drop", "a"], ("undo",), (), ("drop", 5), ("migrate", 5)])

    def try_model(self, operation):
        """Do an operation in the model, or return the class of its error."""
        model = self.model
        try:
            if not isinstance(operation, tuple) or (operation[:1], len(operation)) not in ((("put",), 3), (("drop",), 2), (("migrate",), 2)):
                return Mismatch
            if operation[0] == "put":
                _, name, record = operation
                Migration.nothing(model.kind, model.layout())(record)
                if name not in model.records() and len(model.records()) >= model.most:
                    return TooMany
                model.put(name, record)
            elif operation[0] == "drop":
                if operation[1] not in model.records():
                    return NoName
                model.drop(operation[1])
            else:
                Migration(model.kind, model.layout(), operation[1])
                model.migrate(operation[1])
        except LayoutError as error:
            return type(error)
        return None

    def turn(self):
        """Do one thing, and compare."""
        store, model, chance = self.store, self.model, self.chance
        word = chance.choice("put put drop migrate undo undo redo view write write list list relayout".split())
        self.told[word] = self.told.get(word, 0) + 1
        if word in ("put", "drop", "migrate"):
            operation = (None,)
            while operation is None or operation[:1] != (word,) or len(operation) != 2 + (word == "put"):
                operation = self.some_operation(model.layout())
            error = self.try_model(operation)
            call = {"put": store.__setitem__, "drop": store.drop, "migrate": store.migrate}[word]
            if error is None:
                self.assertEqual(call(*operation[1:]), len(model.eras()) - 1 if word == "migrate" else None)
            else:
                self.assertRaises(error, call, *operation[1:])
        elif word == "undo":
            self.step_in_time(store.undo, model.undo, model.at > 0)
        elif word == "redo":
            self.step_in_time(store.redo, model.redo, model.at + 1 < len(model.states))
        elif word == "view":
            number = chance.randrange(len(model.eras()))
            self.views.append((store.view(number), (number, model.eras()[number][0])))
        else:
            {"write": self.write, "list": self.list, "relayout": self.relayout}[word]()
        self.compare()

    def step_in_time(self, call, in_model, possible):
        if possible:
            self.assertIsNone(call())
            in_model()
        else:
            self.assertRaises(NoMark, call)

    def write(self):
        """Put a record through a view."""
        present = [(view, told) for view, told in self.views if self.model.is_present(told)]
        if present:
            view, (number, _) = self.chance.choice(present)
            name, record = self.chance.choice(NAMES), self.some_record(view.shape)
            model = self.model
            try:
                Migration.nothing(model.kind, view.shape)(record)
            except NoRecord:
                self.assertRaises(NoRecord, view.__setitem__, name, record)
                return
            if name not in model.records() and len(model.records()) >= model.most:
                self.assert_limit(model.most, view.__setitem__, name, record)
            else:
                view[name] = record
                model.put_through(number, name, record)
                self.assertEqual(view[name], record)

    def list(self):
        """Do a list of operations, in which one may be wrong."""
        model = self.model
        states, at, begun = list(model.states), model.at, model.begun
        operations, error = [], None
        for _ in range(self.chance.randint(0, 5)):
            operations.append(self.some_operation(model.layout()))
            if error is None:
                error = self.try_model(operations[-1])
        kept = list(operations)
        if error is None:
            self.assertEqual(self.store.all_done(operations), len(model.eras()) - 1)
        else:
            self.assertRaises(error, self.store.all_done, operations)
            model.states, model.at, model.begun = states, at, begun
        self.assertEqual(operations, kept)

    def relayout(self):
        """Ask for another layout."""
        store, model = self.store, self.model
        other = Layout([self.chance.randint(0, 3) for _ in range(self.chance.randint(0, 4))])
        if self.chance.random() < 0.3:
            other = self.chance.choice(model.eras())[1]
        if other == model.layout():
            self.assertEqual(store.relayout(other), len(model.eras()) - 1)
        elif are_like(self.kind, model.layout(), other):
            self.assertEqual(store.relayout(other), len(model.eras()))
            self.assertEqual(store.notes()[-1][0], "migrate")
            model.migrate(store.notes()[-1][1])
            self.assertEqual(model.layout(), other)
        else:
            with self.assertRaises(NotLike) as caught:
                store.relayout(other)
            self.assertEqual(caught.exception.answer, led(self.kind, model.layout(), other))

    def play(self, kind, factors, most, many, seed):
        self.kind, self.chance, self.views, self.told = kind, random.Random(seed), [], {}
        self.store, self.model = Store(kind, Layout(factors), most=most), Model(kind, Layout(factors), most)
        for _ in range(many):
            self.turn()

    def test_histories(self):
        starts = [(BINARY, (0, 1)), (BINARY, (1, 2, 1)), (TURNED, (0, 0, 2)), (MOTZKIN, (1, 1, 1)), (EVEN, (2, 1)), (FOUR, (1, 1))]
        for seed, (kind, factors) in enumerate(starts + [(HALVES, (0, 2)), (BINARY, (3,)), (MOTZKIN, ())]):
            for most in (1, 3, 12):
                self.play(kind, factors, most, 60, 10 * seed + most)

    def test_long_histories(self):
        for seed in (1, 2):
            self.play(BINARY, (0, 1), 5, 250, 100 + seed)
        self.assertEqual(len(self.told), 9)


class Making(Case):
    def test_a_new_store(self):
        for kind in KINDS:
            store = Store(kind, T)
            self.assertEqual((store.kind, store.most, store.layout, store.era, len(store)), (kind, 12, T, 0, 0))
            self.assertEqual((store.names(), store.eras(), store.notes()), ([], [T], []))
            self.assertEqual([Store(kind, T, most=most).most for most in (1, 2, 40)], [1, 2, 40])
            self.assertRaises(NoMark, store.undo)
            self.assertRaises(NoMark, store.redo)
        for thing in OTHERS + DEEP + LARGE + (list(BINARY),):
            self.assertRaises(NoKind, Store, thing, T)
            self.assertRaises(NoKind, Store, thing, T, most=3)
        self.assertRaises(TypeError, Store, BINARY, T, 3)
        self.assertRaises(TypeError, iter, Store(BINARY, T))
        self.assertRaises(TypeError, iter, Store(BINARY, T).view(0))

    def test_new_lists(self):
        store = Store(BINARY, T + 1)
        store["a"] = (0, 0, ())
        for call in (store.names, store.eras, store.notes):
            kept = call()
            call().clear()
            call().append(None)
            self.assertEqual(call(), kept)
        steps = [("open", 1, 1)]
        store.migrate(steps)
        steps.clear()
        self.assertEqual(store.notes()[-1], ("migrate", (("open", 1, 1),)))


class Names(Case):
    def test_objects_that_are_no_names(self):
        store = Store(BINARY, T + 1)
        store["leaf"] = (0, 0, ())
        view = store.view(0)
        for thing in OTHERS + DEEP + LARGE + ("A", "a b", "1a", "a_", "abcdefghi", ["leaf"], "a\n", " a"):
            if thing in ("leaf", "open"):
                continue
            for part in (store, view):
                self.assertRaises(NoName, part.__getitem__, thing)
                self.assertIs(thing in part, False)
                # The name is told ahead of the record.
                self.assertRaises(NoName, part.__setitem__, thing, (0, 0, ()))
                self.assertRaises(NoName, part.__setitem__, thing, None)
            self.assertRaises(NoName, store.drop, thing)
        self.assertRaises(NoName, store.drop, "open")
        self.assertRaises(NoName, store.__getitem__, "open")
        self.assertEqual((store.names(), len(store.notes())), (["leaf"], 1))

    def test_objects_that_are_no_records(self):
        store = Store(BINARY, T, most=1)
        store["a"] = (1, 0, (LEAF,))
        view = store.view(0)
        for thing in OTHERS + DEEP + LARGE + ((1, 1, (LEAF,)), (1, 0, [LEAF]), [1, 0, (LEAF,)], (2, 0, (LEAF, LEAF)), (True, 0, (LEAF,))):
            for part in (store, view):
                # The record is told ahead of a name too many.
                self.assertRaises(NoRecord, part.__setitem__, "a", thing)
                self.assertRaises(NoRecord, part.__setitem__, "b", thing)
        self.assertEqual(store.notes(), [("put", "a", (1, 0, (LEAF,)))])

    def test_names_too_many(self):
        for most in (1, 2, 12, 40):
            store = Store(BINARY, T, most=most)
            view = store.view(0)
            for at in range(most):
                (view if at % 2 else store)[f"n{at}"] = (1, 0, (LEAF,))
            for part in (store, view):
                self.assert_limit(most, part.__setitem__, "more", (1, 0, (LEAF,)))
                part["n0"] = (1, 0, (JOIN,))
            self.assertEqual(store.names(), sorted(f"n{at}" for at in range(most)))
            store.drop("n0")
            view["more"] = (1, 0, (LEAF,))
            self.assertEqual(len(store), most)

    def test_large_records(self):
        kind = (("a", 0), ("u", 1), ("c", 2))
        store = Store(kind, Layout((3000, 1, 3000)))
        record = (1, 0, (leaning(kind, 150, 0),))
        store["a"] = record
        store.migrate([("close", 1, 1)] * 3000)
        first, now = store.view(0), store.view(1)
        self.assertTrue(same(first["a"], record))
        # A record that was returned may be put again, whatever its size, in its era and through others.
        now["b"] = store["a"]
        store["c"] = now["b"]
        self.assertTrue(same(first["c"], record))
        self.assertTrue(same(store["b"], store["a"]))


class Time(Case):
    def test_equal_puts_are_operations(self):
        store = Store(BINARY, T)
        for _ in range(3):
            store["a"] = (1, 0, (LEAF,))
        self.assertEqual(len(store.notes()), 3)
        store.undo()
        store.undo()
        self.assertIn("a", store)
        store.undo()
        self.assertNotIn("a", store)
        self.assertRaises(NoMark, store.undo)

    def test_what_can_be_done_again(self):
        store = Store(BINARY, T)
        store["a"] = (1, 0, (LEAF,))
        store["b"] = (1, 0, (JOIN,))
        store.drop("a")
        store.undo()
        store.undo()
        # What is refused, what reads, and what is no operation leaves it.
        refused = [
            (NoRecord, store.__setitem__, "a", None), (NoName, store.drop, "b"), (NoStep, store.migrate, None), (NotLike, store.relayout, T + 1),
            (NoStep, store.migrate, [("open", 2, 1)]), (NoEra, store.view, 1), (Mismatch, store.all_done, [None]),
            (NoRecord, store.all_done, [("put", "c", (1, 0, (LEAF,))), ("migrate", ()), ("put", "a", None)]),
        ]
        for error, call, *arguments in refused:
            self.assertRaises(error, call, *arguments)
        self.assertEqual(store.relayout(T), 0)
        self.assertEqual(store.all_done([]), 0)
        self.assertEqual(len(store.view(0)), 1)
        store.redo()
        self.assertEqual(store["b"], (1, 0, (JOIN,)))
        store.redo()
        self.assertEqual(store.names(), ["b"])
        self.assertRaises(NoMark, store.redo)
        store.undo()
        store["c"] = (1, 0, (LEAF,))
        self.assertRaises(NoMark, store.redo)

    def test_what_each_operation_ends(self):
        for call in (
            lambda store: store.drop("a"), lambda store: store.migrate(()), lambda store: store.relayout(Layout((1, 0, 1))),
            lambda store: store.all_done([("drop", "a")]), lambda store: store.view(0).__setitem__("a", (1, 0, (LEAF,))),
        ):
            store = Store(BINARY, T)
            store["a"] = (1, 0, (LEAF,))
            store["a"] = (1, 0, (JOIN,))
            store.undo()
            call(store)
            self.assertRaises(NoMark, store.redo)
            store.undo()
            self.assertEqual(store["a"], (1, 0, (LEAF,)))

    def test_eras_that_end(self):
        store = Store(BINARY, T)
        first = store.view(0)
        store["a"] = (1, 0, (JOIN,))
        self.assertEqual(store.migrate([("open", 1, 1)]), 1)
        second = store.view(1)
        self.assertEqual(store.migrate([("open", 2, 1)]), 2)
        third = store.view(2)
        self.assertEqual([view["a"] for view in (first, second, third)], [(1, 0, (JOIN,)), (2, 0, (LEAF, LEAF)), (1, 0, (LEAF,))])
        store.undo()
        self.assertRaises(NoEra, third.__getitem__, "a")
        self.assertRaises(NoEra, store.view, 2)
        self.assertEqual(second["a"], (2, 0, (LEAF, LEAF)))
        store.redo()
        # Done again the era begins anew: its number is the same, but it is another era.
        self.assertEqual((store.era, store.view(2).era), (2, 2))
        for use in (lambda: third.era, lambda: third.shape, lambda: len(third), lambda: "a" in third, lambda: third["a"]):
            self.assertRaises(NoEra, use)
        self.assertRaises(NoEra, third.__setitem__, "a", (1, 0, (LEAF,)))
        self.assertEqual((first["a"], second.era), ((1, 0, (JOIN,)), 1))
        for _ in range(3):
            store.undo()
        self.assertRaises(NoEra, len, second)
        self.assertEqual(len(first), 0)
        for _ in range(3):
            store.redo()
        self.assertRaises(NoEra, len, second)
        self.assertEqual(first["a"], (1, 0, (JOIN,)))
        # Another migration has the number, too.
        store.undo()
        view = store.view(1)
        store.undo()
        store.migrate(())
        self.assertRaises(NoEra, len, view)
        self.assertEqual(store.view(1).shape, T)

    def test_no_era(self):
        store = Store(BINARY, T)
        store.migrate(())
        for thing in OTHERS + DEEP + LARGE + (2, -1, "0", (0,), 10 ** 50, True, False):
            if thing is True or thing is False or thing not in (0, 1):
                self.assertRaises(NoEra, store.view, thing)
        self.assertEqual([store.view(era).era for era in (0, 1)], [0, 1])

    def test_steps_that_are_none(self):
        store = Store(BINARY, T)
        for thing in OTHERS + DEEP + LARGE:
            if isinstance(thing, (list, tuple)):
                if len(thing) > 0:
                    self.assert_no_step(0, store.migrate, thing)
            else:
                self.assert_no_step(-1, store.migrate, thing)
        self.assert_no_step(1, store.migrate, [("open", 1, 1), ("open", 1, 1)])
        self.assert_limit(40, Store(BINARY, T ** 40).migrate, [("open", 40, 1)])
        self.assertEqual((store.era, store.notes()), (0, []))

    def test_a_migration_without_steps_begins_an_era(self):
        store = Store(BINARY, T)
        self.assertEqual([store.migrate(()), store.migrate([])], [1, 2])
        self.assertEqual(store.eras(), [T, T, T])
        self.assertEqual(store.notes(), [("migrate", ()), ("migrate", ())])


class Relayout(Case):
    def test_like_layouts(self):
        for kind in KINDS:
            store = Store(kind, T + 1)
            store["a"] = numbered_record(kind, T + 1, 3)
            behind = layout_behind(kind, T + 1, ("open", 1, 1))
            self.assertEqual(store.relayout(behind), 1)
            self.assertEqual(store.layout, behind)
            word, steps = store.notes()[-1]
            made = Migration(kind, T + 1, steps)
            self.assertEqual((word, made.target, store["a"]), ("migrate", behind, made(numbered_record(kind, T + 1, 3))))
            self.assertEqual(store.view(0)["a"], numbered_record(kind, T + 1, 3))
            self.assertEqual(store.relayout(behind), 1)
            self.assertEqual(len(store.notes()), 2)

    def test_layouts_that_are_not_like(self):
        store = Store(BINARY, T)
        for other, answer in ((T ** 2, ("rests", (0, 1), (-1, 1))), (Layout((1,)), ("constant",)), (Layout(()), ("constant",))):
            with self.assertRaises(NotLike) as caught:
                store.relayout(other)
            self.assertEqual(caught.exception.answer, answer)
        self.assertEqual((store.era, store.notes()), (0, []))

    def test_layouts_that_are_too_great(self):
        store = Store(BINARY, T)
        self.assert_limit(7, store.relayout, T ** 8)
        self.assert_limit(7, store.relayout, T ** 8 + 101)
        self.assert_limit(100, store.relayout, T + 101)
        great = Store(BINARY, T ** 8)
        self.assert_limit(7, great.relayout, T ** 2)
        self.assert_limit(7, great.relayout, T ** 8)
        self.assert_limit(100, Store(BINARY, T + 101).relayout, T + 101)


class AllDone(Case):
    def test_each_operation_is_undone_alone(self):
        store = Store(BINARY, T)
        done = store.all_done([
            ("put", "a", (1, 0, (JOIN,))), ("migrate", [("open", 1, 1)]), ("put", "b", (0, 0, ())), ("drop", "a"), ("migrate", ()),
        ])
        self.assertEqual((done, store.names(), len(store.notes())), (2, ["b"], 5))
        self.assertEqual(store.notes()[1], ("migrate", (("open", 1, 1),)))
        store.undo()
        store.undo()
        self.assertEqual((store.names(), store.era, store["a"]), (["a", "b"], 1, (2, 0, (LEAF, LEAF))))
        again = Store(BINARY, T)
        again.all_done(store.notes())
        self.assertEqual((again.notes(), again.names(), again.eras()), (store.notes(), store.names(), store.eras()))

    def test_a_wrong_one_at_any_place(self):
        right = [("put", "b", (1, 0, (JOIN,))), ("drop", "a"), ("migrate", (("open", 1, 1),)), ("put", "c", (2, 0, (LEAF, JOIN)))]
        wrong = [
            (Mismatch, None), (Mismatch, ()), (Mismatch, ("put", "a")), (Mismatch, ("drop", "a", 0)), (Mismatch, ("migrate",)),
            (Mismatch, ["drop", "b"]), (Mismatch, ("undo",)), (Mismatch, ("view", 0)), (Mismatch, (("put",), "a", None)), (Mismatch, "put"),
            (Mismatch, (["put"], "a", 0)), (NoName, ("put", None, None)), (NoName, ("drop", [])), (NoName, ("drop", "zz")),
            (NoStep, ("migrate", None)), (NoStep, ("migrate", [("open", 9, 1)])), (NoRecord, ("put", "b", (9, 0, ()))), (NoRecord, ("put", "zz", None)),
        ]
        for place in range(len(right) + 1):
            for error, thing in wrong:
                store, views = self.before()
                shown = self.shown(store, views)
                operations = right[:place] + [thing] + right[place:]
                self.assertRaises(error, store.all_done, operations)
                self.assertEqual(self.shown(store, views), shown)
                # As if it had never been: what could be done again still can.
                store.redo()
                self.assertEqual((store.names(), store.era), (["a", "b"], 1))
                self.assertEqual(views[1].era, 1)

    def before(self):
        """A store with two eras, an undone put, and a view of each era."""
        store = Store(BINARY, T + T ** 2, most=3)
        store["a"] = (1, 0, (LEAF,))
        store.migrate((("turn", 2, 1, 2),))
        store["b"] = (1, 0, (LEAF,))
        store.undo()
        return store, [store.view(0), store.view(1)]

    def shown(self, store, views):
        """All that a store and its views show."""
        told = [store.names(), store.era, store.notes(), [str(layout) for layout in store.eras()], [store[name] for name in store.names()]]
        return told + [[view.era, str(view.shape), len(view)] + [view[name] for name in store.names()] for view in views]

    def test_other_objects(self):
        for thing in OTHERS + DEEP + LARGE:
            store = Store(BINARY, T)
            self.assertRaises(Mismatch, store.all_done, [thing])
            self.assertRaises(Mismatch, store.all_done, [("migrate", ()), thing])
            self.assertEqual((store.era, store.notes()), (0, []))

    def test_too_many_names_in_a_list(self):
        store = Store(BINARY, T, most=2)
        names = [("put", name, (1, 0, (LEAF,))) for name in ("a", "b", "c")]
        self.assert_limit(2, store.all_done, names)
        self.assertEqual(len(store), 0)
        self.assertEqual(store.all_done(names[:2] + [("drop", "a")] + names[2:]), 0)
        self.assertEqual(store.names(), ["b", "c"])

    def test_no_operations(self):
        store = Store(BINARY, T)
        store.migrate(())
        store.undo()
        self.assertEqual(store.all_done([]), 0)
        store.redo()
        self.assertEqual(store.all_done([]), 1)


class TheInterface(Case):
    def test_the_example(self):
        t = Layout.trees(1)
        store = Store((("leaf", 0), ("join", 2)), t ** 2 + 1)
        store["a"] = (2, 0, (("leaf",), ("leaf",)))
        store["b"] = (0, 0, ())
        old = store.view(0)
        done = [store.migrate((("close", 1, 1),)), store["a"], store["b"], old["a"]]
        old["b"] = (2, 0, (("leaf",), ("leaf",)))
        self.assertEqual(done, [1, (1, 0, (JOIN,)), (1, 0, (LEAF,)), (2, 0, (LEAF, LEAF))])
        self.assertEqual([store["b"], store.notes()[-2:]], [(1, 0, (JOIN,)), [("migrate", (("close", 1, 1),)), ("put", "b", (1, 0, (JOIN,)))]])
        self.assertIsNone(store.undo())
        self.assertEqual([store["b"], store.era, [str(one) for one in store.eras()]], [(1, 0, (LEAF,)), 1, ["t^2 + 1", "t"]])

    def test_it_is_defined_in_its_file_with_all_its_methods(self):
        signs = ["__getitem__", "__setitem__", "__contains__", "__len__"]
        for name, methods in (
            ("Store", signs + "__init__ names drop migrate layout relayout era undo redo eras notes view all_done".split()),
            ("View", signs + ["shape", "era"]),
        ):
            made = getattr(store_file, name)
            self.assertEqual(made.__module__, "layoutswap.store")
            for method in methods:
                self.assertIn(method, vars(made))
        for made, properties in ((store_file.Store, ("layout", "era")), (store_file.View, ("shape", "era"))):
            for name in properties:
                self.assertIsInstance(vars(made)[name], property)


if __name__ == "__main__":
    unittest.main()
