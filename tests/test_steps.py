"""Steps (points 2 and 7, stage 6 of the interface)."""

import unittest

from layoutswap import steps
from layoutswap.errors import NoRecord, NoStep, TooMany
from layoutswap.layouts import Layout
from layoutswap.records import is_record
from layoutswap.steps import is_step, layout_behind, record_ahead, record_behind
from oracle import BINARY, EVEN, FOUR, HALVES, KINDS, MOTZKIN, OTHERS, TURNED, WIDE, all_records, leaning, same
from things import DEEP, LARGE

LEAF = ("leaf",)
JOIN = ("join", LEAF, LEAF)
T = Layout((0, 1))
# Kinds, factors, and the size up to which all records are led.
CASES = (
    (BINARY, (2, 2, 3), 5), (TURNED, (1, 3, 2, 1), 4), (MOTZKIN, (3, 3, 3), 3), (MOTZKIN, (1, 2, 2, 2), 4), (EVEN, (4, 3, 4), 2),
    (FOUR, (2, 2, 0, 0, 2), 4), (HALVES, (2, 3, 1, 2), 3), (WIDE, (4, 4, 2, 2, 4), 2), (BINARY, (2,), 0), (BINARY, (), 0),
    (EVEN, (2, 1, 2), 4), (MOTZKIN, (0, 2, 0, 2), 4),
)


def rooms(factors):
    """A list of places for each number of trees, each told by this number and its index at first."""
    return {k: [("at", k, i) for i in range(factors[k] if k < len(factors) else 0)] for k in range(50)}


def done(kind, places, step):
    """Do a step with lists of places, by the words of point 7; a new place tells what it was made of."""
    word, k, n = step[:3]
    if word == "open":
        out = places[k][-n:]
        del places[k][-n:]
        for tag, parts in kind:
            places[k - 1 + parts].extend(("opened", tag, parts, place) for place in out)
    elif word == "close":
        out = {}
        for tag, parts in kind[::-1]:
            out[tag] = places[k - 1 + parts][-n:]
            del places[k - 1 + parts][-n:]
        places[k].extend(("closed", {tag: out[tag][m] for tag in out}) for m in range(n))
    elif word == "move":
        i, n = step[2:]
        row = places[k]
        places[k] = row[:i] + row[i + n:] + row[i:i + n]
    else:
        places[k][-n:] = [("turned", step[3], place) for place in places[k][-n:]]


def led_from(place, trees):
    """The record that is led to a place behind steps, and there has these trees."""
    word, *told = place
    if word == "at":
        return (*told, trees)
    if word == "opened":
        tag, parts, inner = told
        return led_from(inner, ((tag,) + trees[:parts],) + trees[parts:])
    if word == "closed":
        return led_from(told[0][trees[0][0]], trees[0][1:] + trees[1:])
    j, inner = told
    return led_from(inner, trees[j - 1:j] + trees[:j - 1] + trees[j:])


def all_steps(kind, layout):
    """All steps at a layout with numbers a little beyond those that are possible."""
    things = []
    for k in range(-1, layout.degree + 3):
        for n in range(-1, layout.total + 2):
            things += [("open", k, n), ("close", k, n)]
            things += [("move", k, i, n) for i in range(-1, layout[k] + 1)]
            things += [("turn", k, n, j) for j in range(0, k + 2)]
    return [thing for thing in things if right(kind, layout, thing)]


def right(kind, layout, step):
    """Whether a tuple of a word and integers is a step at a layout, by the words of point 7."""
    word, k, n = step[:3]
    if word == "open":
        return k >= 1 and 1 <= n <= layout[k]
    if word == "close":
        asked = {}
        for _, parts in kind:
            asked[k - 1 + parts] = asked.get(k - 1 + parts, 0) + n
        return k >= 1 and n >= 1 and all(many <= layout[j] for j, many in asked.items())
    if word == "move":
        return step[2] >= 0 and step[3] >= 1 and step[2] + step[3] <= layout[k]
    return n >= 1 and n <= layout[k] and 2 <= step[3] <= k


class Forms(unittest.TestCase):
    def test_numbers_at_and_beyond_their_bounds(self):
        for kind, factors, _ in CASES:
            layout = Layout(factors)
            for k in range(-2, layout.degree + 3):
                for n in list(range(-1, layout.total + 2)) + [10 ** 49]:
                    things = [("open", k, n), ("close", k, n)]
                    things += [("move", k, i, n) for i in range(-2, layout[k] + 2)]
                    things += [("turn", k, n, j) for j in range(-1, k + 3)]
                    for thing in things:
                        self.assertIs(is_step(kind, layout, thing), right(kind, layout, thing))

    def test_close_needs_places_for_all_variants_of_a_number_of_parts(self):
        self.assertIs(is_step(EVEN, Layout((4, 2, 4)), ("close", 1, 2)), True)
        for factors in ((3, 2, 4), (4, 1, 4), (4, 2, 3), (4, 2), (0, 2, 4)):
            self.assertIs(is_step(EVEN, Layout(factors), ("close", 1, 2)), False)
        self.assertIs(is_step(WIDE, Layout((0, 0, 4, 4, 2, 2, 4)), ("close", 3, 2)), True)
        self.assertIs(is_step(WIDE, Layout((0, 0, 4, 4, 2, 2, 3)), ("close", 3, 2)), False)

    def test_words_lengths_and_sorts(self):
        layout = Layout([5] * 6)
        for step in (("open", 2, 1), ("close", 2, 1), ("move", 2, 1, 1), ("turn", 2, 1, 2)):
            self.assertIs(is_step(BINARY, layout, step), True)
            wrong = [list(step), step[:-1], step + (1,), step[1:], (step,), step[0], dict(enumerate(step))]
            wrong += [(word,) + step[1:] for word in ("", "Open", "opens", "ope", " open", "none", None, 1, True, (), [], {})]
            for at in range(1, len(step)):
                for part in (None, "1", "", True, False, [1], (1,), {}, 1.0, -1, 10 ** 49):
                    wrong.append(step[:at] + (part,) + step[at + 1:])
            for thing in wrong:
                with self.subTest(thing):
                    self.assertIs(is_step(BINARY, layout, thing), False)
                    with self.assertRaises(NoStep) as caught:
                        layout_behind(BINARY, layout, thing)
                    self.assertEqual(caught.exception.place, 0)

    def test_other_objects(self):
        for thing in OTHERS + DEEP + LARGE:
            for layout in (Layout([9] * 41), Layout(())):
                self.assertIs(is_step(BINARY, layout, thing), False)
                self.assertIs(is_step(BINARY, layout, ("open", thing, 1)), type(thing) is int and thing == 1 and bool(layout))
                self.assertIs(is_step(BINARY, layout, (thing, 1, 1)), thing == "open" and bool(layout))

    def test_a_step_at_a_layout_is_one_with_more_places(self):
        for kind, factors, _ in CASES:
            layout = Layout(factors)
            for step in all_steps(kind, layout):
                behind = layout_behind(kind, layout, step)
                for more in (1, T, T ** 2, T ** 7 + 3, Layout([4] * 9)):
                    self.assertIs(is_step(kind, layout + more, step), True)
                    self.assertEqual(layout_behind(kind, layout + more, step), behind + more)

    def test_steps_beyond_the_bound_of_the_degree(self):
        for kind in KINDS:
            most = max(parts for _, parts in kind)
            for k in range(36, 41):
                layout = T ** k + 1
                self.assertIs(is_step(kind, layout, ("open", k, 1)), True)
                if k - 1 + most <= 40:
                    self.assertEqual(layout_behind(kind, layout, ("open", k, 1)).degree, k - 1 + most)
                    continue
                trees = (leaning(kind, 1, 0),) * k
                calls = (layout_behind, record_behind, record_ahead)
                for call, more in zip(calls, ((), ((k, 0, trees),), ((0, 0, ()),))):
                    with self.assertRaises(TooMany) as caught:
                        call(kind, layout, ("open", k, 1), *more)
                    self.assertEqual(caught.exception.limit, 40)
        high = Layout([9] * 41)
        self.assertEqual(layout_behind(BINARY, high, ("close", 39, 9)).factors[38:], (0, 18))
        self.assertIs(is_step(BINARY, high, ("close", 40, 1)), False)
        self.assertEqual(layout_behind(BINARY, high, ("turn", 40, 9, 40)), high)


class Leading(unittest.TestCase):
    def test_all_records_of_small_layouts(self):
        for kind, factors, most in CASES:
            layout = Layout(factors)
            for step in all_steps(kind, layout):
                with self.subTest((kind, factors, step)):
                    self.check(kind, layout, step, most)

    def check(self, kind, layout, step, most):
        """Lead the records forth and back: none to two, and each small one of the layout behind is met."""
        behind = layout_behind(kind, layout, step)
        places = rooms(layout.factors)
        done(kind, places, step)
        self.assertEqual(behind.factors, Layout([len(places[k]) for k in range(41)]).factors)
        images = set()
        for record in all_records(kind, layout.factors, most):
            image = record_behind(kind, layout, step, record)
            self.assertIs(is_record(kind, behind, image), True)
            self.assertEqual(record_ahead(kind, layout, step, image), record)
            self.assertNotIn(image, images)
            images.add(image)
        for image in all_records(kind, behind.factors, most):
            k, i, trees = image
            record = record_ahead(kind, layout, step, image)
            self.assertEqual(record, led_from(places[k][i], trees))
            self.assertIs(is_record(kind, layout, record), True)
            self.assertEqual(record_behind(kind, layout, step, record), image)

    def test_places_by_hand(self):
        layout = Layout((2, 3, 2))
        # Two of the three places with one tree go out; behind the two that are there come two without trees.
        step = ("open", 1, 2)
        self.assertEqual(layout_behind(BINARY, layout, step).factors, (4, 1, 4))
        found = [record_behind(BINARY, layout, step, (1, i, (tree,))) for i in range(3) for tree in (LEAF, JOIN)]
        self.assertEqual(found, [
            (1, 0, (LEAF,)), (1, 0, (JOIN,)), (0, 2, ()), (2, 2, (LEAF, LEAF)), (0, 3, ()), (2, 3, (LEAF, LEAF)),
        ])
        self.assertEqual(record_behind(BINARY, layout, step, (2, 1, (JOIN, LEAF))), (2, 1, (JOIN, LEAF)))
        # Two variants without parts, one with one, two with two: ahead of the new ones the old place goes out.
        layout = Layout((1, 3, 1))
        step = ("open", 1, 2)
        a, b = ("a",), ("b",)
        trees = [a, b, ("u", a), ("j", a, b), ("k", a, b)]
        found = [record_behind(EVEN, layout, step, (1, i, (tree,))) for i in (1, 2) for tree in trees]
        self.assertEqual(found, [
            (0, 1, ()), (0, 3, ()), (1, 1, (a,)), (2, 1, (a, b)), (2, 3, (a, b)),
            (0, 2, ()), (0, 4, ()), (1, 2, (a,)), (2, 2, (a, b)), (2, 4, (a, b)),
        ])
        self.assertEqual(layout_behind(EVEN, layout, step).factors, (5, 3, 5))

    def test_closing_by_hand(self):
        layout = Layout((3, 2, 4))
        step = ("close", 1, 2)
        self.assertEqual(layout_behind(BINARY, layout, step).factors, (1, 4, 2))
        found = [record_behind(BINARY, layout, step, record) for record in (
            (0, 0, ()), (0, 1, ()), (0, 2, ()), (1, 1, (JOIN,)), (2, 1, (LEAF, JOIN)), (2, 2, (LEAF, JOIN)), (2, 3, (JOIN, LEAF)),
        )]
        self.assertEqual(found, [
            (0, 0, ()), (1, 2, (LEAF,)), (1, 3, (LEAF,)), (1, 1, (JOIN,)), (2, 1, (LEAF, JOIN)), (1, 2, (("join", LEAF, JOIN),)),
            (1, 3, (("join", JOIN, LEAF),)),
        ])

    def test_moves_and_turns_by_hand(self):
        layout = Layout((5, 0, 0, 3))
        found = [record_behind(BINARY, layout, ("move", 0, 1, 2), (0, i, ()))[1] for i in range(5)]
        self.assertEqual(found, [0, 3, 4, 1, 2])
        found = [record_behind(BINARY, layout, ("move", 0, 0, 5), (0, i, ()))[1] for i in range(5)]
        self.assertEqual(found, [0, 1, 2, 3, 4])
        wide = ("join", JOIN, LEAF)
        found = [record_behind(BINARY, layout, ("turn", 3, 2, j), (3, i, (LEAF, JOIN, wide))) for j in (2, 3) for i in range(3)]
        kept, two, three = (LEAF, JOIN, wide), (JOIN, LEAF, wide), (JOIN, wide, LEAF)
        self.assertEqual(found, [(3, 0, kept), (3, 1, two), (3, 2, two), (3, 0, kept), (3, 1, three), (3, 2, three)])
        self.assertEqual(record_ahead(BINARY, layout, ("turn", 3, 2, 3), (3, 2, three)), (3, 2, kept))

    def test_turns_of_forty_trees(self):
        trees = tuple(leaning(BINARY, levels, 0) for levels in range(1, 41))
        for j in (2, 3, 39, 40):
            image = record_behind(BINARY, T ** 40, ("turn", 40, 1, j), (40, 0, trees))
            self.assertEqual(image, (40, 0, trees[1:j] + trees[:1] + trees[j:]))
            self.assertEqual(record_ahead(BINARY, T ** 40, ("turn", 40, 1, j), image), (40, 0, trees))

    def test_great_factors(self):
        many = 10 ** 49
        layout = Layout((many, many, many))
        image = record_behind(BINARY, layout, ("open", 1, many // 2), (1, many - 1, (JOIN,)))
        self.assertEqual(image, (2, many + many // 2 - 1, (LEAF, LEAF)))
        image = record_behind(BINARY, layout, ("close", 1, many), (2, 3, (JOIN, LEAF)))
        self.assertEqual(image, (1, many + 3, (("join", JOIN, LEAF),)))

    def test_great_trees(self):
        for levels in (390, 5000):
            tree = leaning(BINARY, levels, 0)
            image = record_behind(BINARY, T, ("open", 1, 1), (1, 0, (tree,)))
            self.assertTrue(same(image, (2, 0, tree[1:])))
            self.assertTrue(same(record_ahead(BINARY, T, ("open", 1, 1), image), (1, 0, (tree,))))


class Errors(unittest.TestCase):
    def assert_raises_place_0(self, call, *arguments):
        with self.assertRaises(NoStep) as caught:
            call(*arguments)
        self.assertEqual(caught.exception.place, 0)

    def test_no_step_is_told_first(self):
        for thing in OTHERS + DEEP + LARGE + (("open", 40, 2), ("open", 2, 1), ["open", 40, 1], ("close", 40, 1)):
            for record in (None, (40, 0, ()), (0, 0, ()), 1):
                for call in (record_behind, record_ahead):
                    self.assert_raises_place_0(call, BINARY, T ** 40 + 1, thing, record)
            self.assert_raises_place_0(layout_behind, BINARY, T ** 40 + 1, thing)

    def test_too_many_is_told_ahead_of_no_record(self):
        for thing in OTHERS + DEEP:
            for call in (record_behind, record_ahead):
                self.assertRaises(TooMany, call, BINARY, T ** 40, ("open", 40, 1), thing)

    def test_no_record(self):
        step = ("open", 1, 1)
        for thing in OTHERS + DEEP + LARGE + ([1, 0, (LEAF,)], (1, 0, [LEAF]), (1, 0, (["leaf"],)), (True, 0, (LEAF,))):
            self.assertRaises(NoRecord, record_behind, BINARY, T, step, thing)
            if thing != (0, 0, ()):
                self.assertRaises(NoRecord, record_ahead, BINARY, T, step, thing)
        # A record of the one layout is not always one of the other.
        self.assertRaises(NoRecord, record_behind, BINARY, T, step, (0, 0, ()))
        self.assertRaises(NoRecord, record_behind, BINARY, T, step, (2, 0, (LEAF, LEAF)))
        self.assertRaises(NoRecord, record_ahead, BINARY, T, step, (1, 0, (LEAF,)))


class TheInterface(unittest.TestCase):
    def test_the_example(self):
        kind, leaf, t = (("leaf", 0), ("join", 2)), ("leaf",), Layout((0, 1))
        join = ("join", leaf, leaf)
        self.assertEqual(layout_behind(kind, t, ("open", 1, 1)).factors, (1, 0, 1))
        self.assertEqual(record_behind(kind, Layout((0, 2, 1)), ("open", 1, 2), (1, 1, (join,))), (2, 2, (leaf, leaf)))
        self.assertEqual(record_ahead(kind, t, ("open", 1, 1), (2, 0, (leaf, leaf))), (1, 0, (join,)))
        found = [record_behind(kind, Layout((3,)), ("move", 0, 0, 1), (0, index, ()))[1] for index in range(3)]
        self.assertEqual(found, [2, 0, 1])

    def test_each_function_is_defined_in_its_file(self):
        for name in ("is_step", "layout_behind", "record_behind", "record_ahead"):
            self.assertEqual(getattr(steps, name).__module__, "layoutswap.steps")


if __name__ == "__main__":
    unittest.main()
