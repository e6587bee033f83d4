"""The console (points 2, 20 and 21, stage 13 of the interface)."""

import random
import unittest

from layoutswap import console as console_file
from layoutswap.alike import first_difference
from layoutswap.console import Console
from layoutswap.errors import (
    InvalidCommand, LayoutError, Mismatch, NoEra, NoKind, NoMark, NoName, NoNumber, NoRecord, NoStep, NotLike, SyntaxProblem, TooMany,
)
from layoutswap.fewest import distance
from layoutswap.layouts import Layout
from layoutswap.migrations import Migration
from layoutswap.records import how_many_records, numbered_record
from layoutswap.rests import Rest, are_like, multiple, period
from layoutswap.store import Store
from layoutswap.texts import format_kind, format_record, format_steps
from oracle import BINARY, KINDS
from test_rows import chain
from test_steps import all_steps

T = Layout((0, 1))
# A right line of each command, in a store of the first kind and layout with a record under the name a.
LINES = (
    "open : leaf 0, join 2 : t", "kind", "layout", "era", "eras", "names", "notes", "get a", "see 0 a", "put a : 1.0[leaf]",
    "write 0 a : 1.0[leaf]", "drop a", "undo", "redo", "migrate : open 1 1", "relayout : t^2 + 1", "like : t", "multiple : t", "rest : t",
    "period", "count 3", "differ : nothing : open 1 1; close 1 1", "distance 3 3 : t",
)


def ready():
    """A console whose store has a record, and one operation that can be done again."""
    console = Console()
    console.execute("put a : 1.0[join(leaf, leaf)]")
    console.execute("put b : 1.0[leaf]")
    console.execute("undo")
    return console


def shown(console):
    """What a console shows of its store."""
    return [console.execute(line) for line in ("kind", "layout", "era", "eras", "names", "notes", "get a", "see 0 a")]


class Case(unittest.TestCase):
    def check_all(self, console, told):
        """Execute lines, and compare their answers."""
        for line, answer in told:
            self.assertEqual(console.execute(line), answer, line)

    def assert_refused(self, error, line, console=None):
        """A line is refused, and nothing changes."""
        console = console or ready()
        before = shown(console)
        with self.assertRaises(error, msg=line) as caught:
            console.execute(line)
        self.assertIs(type(caught.exception), error, line)
        self.assertEqual(shown(console), before)
        self.assertEqual(console.execute("redo"), "ok")
        return caught.exception

    def assert_problem(self, column, line):
        error = self.assert_refused(SyntaxProblem, line)
        self.assertEqual((error.line, error.column), (1, column), line)


class Answers(Case):
    def test_a_new_console(self):
        self.check_all(Console(), [
            ("kind", "leaf 0, join 2"), ("layout", "t"), ("era", "0"), ("eras", "t"), ("names", "nothing"), ("notes", "nothing"),
            ("count 5", "2"), ("count 0", "0"), ("count 40", "0"), ("period", "6"),
        ])

    def test_records(self):
        self.check_all(Console(), [
            ("put b : 1.0[ join( leaf,leaf ) ]", "ok"), ("get b", "1.0[join(leaf, leaf)]"), ("put a1 :  1 . 0[leaf]", "ok"), ("names", "a1 b"),
            ("see 0 b", "1.0[join(leaf, leaf)]"), ("write 0 c : 1.0[leaf]", "ok"), ("get c", "1.0[leaf]"), ("drop b", "ok"), ("names", "a1 c"),
            ("undo", "ok"), ("names", "a1 b c"), ("redo", "ok"), ("names", "a1 c"), ("put open : 1.0[leaf]", "ok"), ("get open", "1.0[leaf]"),
            ("notes", "put b : 1.0[join(leaf, leaf)]\nput a1 : 1.0[leaf]\nput c : 1.0[leaf]\ndrop b\nput open : 1.0[leaf]"),
        ])

    def test_migrations(self):
        self.check_all(Console(), [
            ("put a : 1.0[join(leaf, join(leaf, leaf))]", "ok"), ("migrate : open 1 1;turn 2 1 2", "1"), ("layout", "t^2 + 1"),
            ("get a", "2.0[join(leaf, leaf), leaf]"), ("see 0 a", "1.0[join(leaf, join(leaf, leaf))]"),
            ("see 1 a", "2.0[join(leaf, leaf), leaf]"), ("write 0 b : 1.0[leaf]", "ok"), ("get b", "0.0[]"), ("migrate : nothing", "2"),
            ("eras", "t\nt^2 + 1\nt^2 + 1"), ("era", "2"), ("relayout : t", "3"), ("relayout :  t ", "3"), ("eras", "t\nt^2 + 1\nt^2 + 1\nt"),
            ("see 1 a", "2.0[join(leaf, leaf), leaf]"), ("undo", "ok"), ("era", "2"), ("undo", "ok"),
            ("notes", "put a : 1.0[join(leaf, join(leaf, leaf))]\nmigrate : open 1 1; turn 2 1 2\nput b : 0.0[]"), ("redo", "ok"),
            ("notes", "put a : 1.0[join(leaf, join(leaf, leaf))]\nmigrate : open 1 1; turn 2 1 2\nput b : 0.0[]\nmigrate : nothing"),
        ])

    def test_another_store(self):
        console = ready()
        self.check_all(console, [
            ("open : a 0,u 1,c 2 : t^2+ 2 * t", "ok"), ("kind", "a 0, u 1, c 2"), ("layout", "t^2 + 2*t"), ("names", "nothing"), ("era", "0"),
            ("notes", "nothing"), ("period", "4"), ("put a : 2.0[a, u(a)]", "ok"), ("migrate : open 2 1", "1"), ("get a", "1.2[u(a)]"),
            ("open : x 4, y 0 : 0", "ok"), ("layout", "0"), ("eras", "0"), ("period", "none"), ("count 0", "0"), ("like : 0", "yes"),
            ("multiple : 0", "1"), ("multiple : 1", "none"),
        ])
        self.assertRaises(NoMark, console.execute, "undo")

    def test_questions(self):
        self.check_all(Console(), [
            ("like : t^7", "yes"), ("like : t^2", "no"), ("like : 1", "no"), ("multiple : t^7", "1"), ("multiple : 1", "none"), ("rest : t^2", "t - 1"),
            ("rest : t^3", "-1"), ("rest : 0", "0"), ("rest : 3*t", "3*t"), ("distance 3 3 : t^3 + t + 1", "2"), ("distance 6 8 : t^7", "18"),
            ("distance 1 1 : t", "0"), ("distance 1 2 : t^2", "none"), ("differ : nothing : nothing", "none"),
            ("differ : open 1 1; turn 2 1 2; close 1 1 : nothing", "1.0[join(leaf, join(leaf, leaf))]"),
            ("differ : open 1 1;turn 2 1 2 : open 1 1", "1.0[join(leaf, join(leaf, leaf))]"),
        ])
        console = Console()
        console.execute("open : a 0, b 0, u 1, j 2, k 2 : t^3 + 2*t")
        self.check_all(console, [("multiple : t", "2"), ("multiple : t^2", "none"), ("like : t", "no")])

    def test_sessions_against_a_store(self):
        for seed, kind in enumerate(KINDS):
            self.play(kind, random.Random(seed), 120)

    def play(self, kind, chance, many):
        """Do the same things in a console and in a store."""
        console, layout = Console(), Layout((1, 1, 1))
        self.assertEqual(console.execute(f"open : {format_kind(kind)} : {layout}"), "ok")
        store = Store(kind, layout)
        for _ in range(many):
            line, call = self.some_command(kind, store, chance)
            try:
                right = call()
            except LayoutError as error:
                self.assertRaises(type(error), console.execute, line)
            else:
                self.assertEqual(console.execute(line), right, line)

    def some_command(self, kind, store, chance):
        """A line by chance, and what does the same in a store and returns the right answer."""
        name, number = chance.choice(("a", "b", "X", "toolongname")), chance.randint(0, 2)
        layout = store.layout
        shape = store.eras()[min(number, store.era)]
        records = [numbered_record(kind, told, chance.randint(0, 30)) or (0, 0, ()) for told in (layout, shape)]
        steps = [[chance.choice(all_steps(kind, layout))] if layout.total and layout.total < 15 else [] for _ in range(2)]
        other = Layout([chance.randint(0, 2) for _ in range(3)])

        def done(call, *arguments):
            result = call(*arguments)
            return "ok" if result is None else str(result)

        def through(view, *told):
            if told:
                view[name] = told[0]
                return "ok"
            return format_record(view[name])

        def difference():
            found = first_difference(Migration(kind, layout, steps[0]), Migration(kind, layout, steps[1]))
            return "none" if found is None else format_record(found)

        def or_none(found):
            return "none" if found is None else str(found)
        return chance.choice([
            (f"put {name} : {format_record(records[0])}", lambda: done(store.__setitem__, name, records[0])),
            (f"write {number} {name} : {format_record(records[1])}", lambda: through(store.view(number), records[1])),
            (f"get {name}", lambda: format_record(store[name])), (f"see {number} {name}", lambda: through(store.view(number))),
            (f"drop {name}", lambda: done(store.drop, name)), ("undo", lambda: done(store.undo)), ("redo", lambda: done(store.redo)),
            (f"migrate : {format_steps(steps[0])}", lambda: done(store.migrate, steps[0])),
            (f"relayout : {other}", lambda: done(store.relayout, other)), ("era", lambda: str(store.era)), ("layout", lambda: str(store.layout)),
            ("names", lambda: " ".join(store.names()) or "nothing"), ("eras", lambda: "\n".join(str(told) for told in store.eras())),
            (f"like : {other}", lambda: "yes" if are_like(kind, layout, other) else "no"), ("kind", lambda: format_kind(kind)),
            (f"multiple : {other}", lambda: or_none(multiple(kind, layout, other))), ("period", lambda: or_none(period(kind))),
            (f"rest : {other}", lambda: str(Rest.of(kind, other))), (f"count {number}", lambda: str(how_many_records(kind, layout, number))),
            (f"differ : {format_steps(steps[0])} : {format_steps(steps[1])}", difference),
            (f"distance 5 {number + 2} : {other}", lambda: or_none(distance(kind, layout, other, 5, number + 2))),
        ])


class InvalidLines(Case):
    def test_right_lines(self):
        for line in LINES:
            ready().execute(line)

    def test_lines_that_are_none(self):
        lines = [
            "", " ", "  ", " : ", "x", "Kind", "kind ", " kind", "kind  ", "kind x", "kind : t", "kind : ", "layout x", "layout : t", "era 0", "eras 0",
            "names a", "notes a", "get", "get ", "get  a", "get a b", " get a", "get a ", "get a : x", "get : x", "see", "see a", "see 0", "see a 0",
            "see 0 a b", "see 0  a", "see 00 a", "see 01 a", "see -1 a", "see +0 a", "see 1000001 a", "see 9999999 a", "see 0 a : 1.0[leaf]",
            "see 0.0 a", "see x a", "put", "put a", "put a 1.0[leaf]", "put a: 1.0[leaf]", "put a :1.0[leaf]", "put a :", "put : 1.0[leaf]",
            "put a b : 1.0[leaf]", "put  a : 1.0[leaf]", "put a  : 1.0[leaf]", "put  : 1.0[leaf]", "write a : 1.0[leaf]", "write 0 : 1.0[leaf]",
            "write 0 a", "write x a : 1.0[leaf]", "write 0 a b : 1.0[leaf]", "write 00 a : 1.0[leaf]", "drop", "drop a b", "drop a : a", "undo 1",
            "redo 1", "undo : a", "migrate", "migrate nothing", "migrate :", "migrate 1 : nothing", "relayout", "relayout t", "relayout t : t",
            "like", "like t", "multiple t", "rest", "rest t", "period 1", "period : t", "count", "count 41", "count 040", "count 00", "count -1",
            "count 1000000", "count x", "count 1 1", "count 1 : t", "count t", "differ", "differ : nothing", "differ : nothing :",
            "differ nothing : nothing", "differ : nothing: nothing", "differ x : nothing : nothing", "open", "open : leaf 0, join 2",
            "open : leaf 0, join 2 :t", "open leaf : t", "open : : t", "open t : leaf 0, join 2 : t", "distance : t", "distance 3 : t", "distance 3 3",
            "distance 3 3 t", "distance 3 3 3 : t", "distance x 3 : t", "distance 3 x : t", "distance 03 3 : t", "distance 3 1000001 : t",
            "distance 3  3 : t", "KIND", "undo\n", "undo\t", "\tundo", "era\n", "get\ta", "see\t0 a", "names;", "quit", "help", "store",
        ]
        for line in lines:
            self.assert_refused(InvalidCommand, line)

    def test_words_more_or_fewer(self):
        for line in LINES:
            head, sign, rest = line.partition(" : ")
            words = head.split(" ")
            changed = [words + ["a"], words + [""], [""] + words, words + ["0"]] + [words[:at] + words[at + 1:] for at in range(len(words))]
            changed += [words[:at] + [""] + words[at:] for at in range(len(words))]
            for other in changed:
                thing = " ".join(other) + sign + rest
                self.assert_refused(InvalidCommand, thing)
            if sign:
                self.assert_refused(InvalidCommand, head)
                self.assert_refused(InvalidCommand, head + " " + rest)
            else:
                self.assert_refused(InvalidCommand, line + " : t")

    def test_a_line_is_invalid_ahead_of_all_else(self):
        for line in ("put a b : #", "count 41 : #", "see 00 A", "open : #", "differ : #", "distance 9 09 : t^99", "write 0 : #"):
            self.assert_refused(InvalidCommand, line)

    def test_great_numbers(self):
        self.assert_refused(NoEra, "see 1000000 a")
        self.assert_refused(NoEra, "write 1000000 a : 1.0[leaf]")
        self.assert_refused(NoNumber, "distance 1000000 1000000 : t")
        self.assertEqual(ready().execute("see 0 a"), "1.0[join(leaf, leaf)]")


class Errors(Case):
    def test_texts(self):
        cases = [
            ("put a : ", 1), ("put a :  ", 2), ("put a : 1.0[leaf] : x", 11), ("put a : 1.0[leaf", 9), ("put A : 1.0(leaf)", 4), ("migrate : ", 1),
            ("migrate : open 1", 7), ("migrate : open 1 1 : x", 10), ("relayout : t^41", 3), ("like : t : t", 3), ("multiple : x", 1), ("rest : ", 1),
            ("open : leaf : t", 5), ("open :  : t", 1), ("open : leaf 0, join 2 : ", 1), ("open : leaf 0, join 2 : t : t", 3),
            ("open : leaf 0, join 2 :  : t", 2), ("differ : x : y", 1), ("differ : nothing : open", 5), ("differ : nothing : nothing : nothing", 9),
            ("differ :  : ", 1), ("distance 9 9 : #", 1), ("write 9 A : 1.0[]", 5), ("like : t\n", 2), ("put a : 1.0[leaf]\n", 10),
        ]
        for line, column in cases:
            self.assert_problem(column, line)

    def test_texts_in_their_order(self):
        self.assert_refused(NoKind, "open : leaf 0, join 1 : #")
        self.assert_problem(7, "open : leaf 0; join 1 : #")
        self.assert_problem(1, "differ : # : #")
        self.assert_refused(SyntaxProblem, "differ : open 9 9 : #")
        self.assert_problem(11, "differ : open 9 9; # : #")

    def test_what_the_store_raises(self):
        cases = [
            (NoName, "get b"), (NoName, "get A"), (NoName, "get 1"), (NoName, "get :"), (NoName, "get abcdefghi"), (NoName, "see 0 b"),
            (NoEra, "see 1 b"), (NoName, "drop b"), (NoName, "drop a\t"), (NoName, "put A : 1.0[leaf]"), (NoName, "put 1 : 9.9[" + "a, " * 8 + "a]"),
            (NoRecord, "put a : 1.1[leaf]"), (NoRecord, "put a : 1.0[x]"), (NoRecord, "put a : 1.0[join(leaf)]"), (NoEra, "write 1 A : 1.0[x]"),
            (NoName, "write 0 A : 1.0[x]"), (NoRecord, "write 0 a : 0.0[]"), (NoStep, "migrate : open 2 1"), (NoStep, "migrate : open 1 0"),
            (NotLike, "relayout : t^2"), (TooMany, "relayout : t^8"), (TooMany, "relayout : t + 101"), (NoNumber, "distance 7 3 : t"),
            (NoNumber, "distance 3 9 : t"), (Mismatch, "distance 0 0 : t"), (Mismatch, "distance 3 3 : t^4"), (NoStep, "differ : open 9 1 : open 8 1"),
            (NoStep, "differ : nothing : open 2 1"), (Mismatch, "differ : open 1 1 : nothing"),
        ]
        for error, line in cases:
            self.assert_refused(error, line)
        self.assertRaises(NoMark, Console().execute, "undo")
        self.assertRaises(NoMark, Console().execute, "redo")

    def test_the_first_migration_ahead_of_the_second(self):
        self.assertEqual(self.assert_refused(NoStep, "differ : open 1 1; open 9 1 : open 9 1").place, 1)
        self.assertEqual(self.assert_refused(NoStep, "differ : open 1 1; open 2 1 : open 1 1; open 2 1; open 9 9").place, 2)
        console = Console()
        console.execute("open : leaf 0, join 2 : t^40 + t")
        with self.assertRaises(TooMany) as caught:
            console.execute("differ : open 40 1 : open 9 9")
        self.assertEqual(caught.exception.limit, 40)

    def test_too_many_rows(self):
        console = Console()
        steps = chain(BINARY, 400)
        there = Migration(BINARY, T, steps)
        text = format_steps((there >> ~there).steps)
        with self.assertRaises(TooMany) as caught:
            console.execute(f"differ : {text} : nothing")
        self.assertEqual(caught.exception.limit, 400)

    def test_names_too_many(self):
        console = Console()
        for at in range(12):
            self.assertEqual(console.execute(f"put n{at} : 1.0[leaf]"), "ok")
        for line in ("put n12 : 1.0[leaf]", "write 0 n12 : 1.0[leaf]"):
            with self.assertRaises(TooMany) as caught:
                console.execute(line)
            self.assertEqual(caught.exception.limit, 12)

    def test_a_refused_open_keeps_the_store(self):
        for line in ("open : leaf 0 : t", "open : leaf 0, join 2 : x", "open : leaf 0, join 2"):
            self.assert_refused(NoKind if line.endswith("0 : t") else SyntaxProblem if line.endswith("x") else InvalidCommand, line)


class TheInterface(Case):
    def test_the_example(self):
        console = Console()
        lines = [
            "put a : 1.0[join(leaf, leaf)]", "migrate : open 1 1", "get a", "see 0 a", "write 0 b : 1.0[leaf]", "get b", "names", "like : t^8 + 1",
            "like : t^2", "rest : t^2", "period", "count 2", "undo", "notes",
        ]
        self.assertEqual([console.execute(line) for line in lines], [
            "ok", "1", "2.0[leaf, leaf]", "1.0[join(leaf, leaf)]", "ok", "0.0[]", "a b", "yes", "no", "t - 1", "6", "1", "ok",
            "put a : 1.0[join(leaf, leaf)]\nmigrate : open 1 1",
        ])

    def test_it_is_defined_in_its_file_with_all_its_methods(self):
        self.assertEqual(console_file.Console.__module__, "layoutswap.console")
        for name in ("__init__", "execute"):
            self.assertIn(name, vars(Console))


if __name__ == "__main__":
    unittest.main()
