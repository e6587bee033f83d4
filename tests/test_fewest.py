"""The fewest one steps within bounds, and the papers that show them (points 2, 10 and 15, stage 10)."""

import itertools
import random
import unittest

from layoutswap import fewest
from layoutswap.errors import Mismatch, NoKind, NoNumber
from layoutswap.fewest import closed_paper, distance, price_paper, shortest, shows_apart, shows_distance
from layoutswap.layouts import Layout
from layoutswap.rests import are_like
from oracle import BINARY, EVEN, FOUR, HALVES, KINDS, MOTZKIN, OTHERS, WIDE, cut
from test_finder import some_kinds
from things import DEEP, LARGE

T = Layout((0, 1))
FAR, TWO = Layout((1, 1, 0, 1)), Layout((0, 0, 1))
CALLS = (distance, shortest, price_paper, closed_paper)


def within(places, degree):
    """The factors of all layouts within bounds."""
    chosen = [told for many in range(places + 1) for told in itertools.combinations_with_replacement(range(degree + 1), many)]
    return [cut(told.count(k) for k in range(degree + 1)) for told in chosen]


def next_ones(kind, factors, places, degree):
    """The factors of the layouts within bounds behind a one step, by the words of point 7."""
    found = set()
    for k in range(1, degree + 1):
        for sign in (1, -1):
            have = list(factors) + [0] * (degree + 8 - len(factors))
            new = list(have)
            new[k] -= sign
            asked = [0] * len(have)
            for _, parts in kind:
                new[k - 1 + parts] += sign
                asked[k - 1 + parts] += 1
            right = have[k] >= 1 if sign > 0 else all(many >= less for many, less in zip(have, asked))
            new = cut(new)
            if right and sum(new) <= places and len(new) - 1 <= degree:
                found.add(new)
    return found


def distances(kind, one, places, degree):
    """The distances of all layouts that are reached from one."""
    found, layer, far = {one: 0}, [one], 0
    while layer:
        far += 1
        layer = sorted({new for factors in layer for new in next_ones(kind, factors, places, degree)} - set(found))
        found.update((factors, far) for factors in layer)
    return found


def is_price_paper(kind, one, other, places, degree, number, paper):
    """Whether a dict from factors to prices is a price paper, by the words of point 15."""
    if paper.get(one) != 0 or paper.get(other, number) < number:
        return False
    return all(
        paper.get(new, price + 2) <= price + 1
        for factors, price in paper.items() if price < number - 1 for new in next_ones(kind, factors, places, degree)
    )


class Case(unittest.TestCase):
    def cases(self, many, seed):
        """Kinds, two layouts and bounds."""
        chance = random.Random(seed)
        kinds = (BINARY, MOTZKIN) * 5 + KINDS + tuple(some_kinds(10, seed))
        for _ in range(many):
            kind, places, degree = chance.choice(kinds), chance.randint(0, 6), chance.randint(0, 6)
            layouts = within(places, degree)
            one = chance.choice(layouts)
            # Those that are reached stand in the order of their distance: the last ones are far away.
            others = list(distances(kind, one, places, degree))[-4:] if chance.random() < 0.7 else layouts
            yield kind, one, chance.choice(others), places, degree


class Distances(Case):
    def test_all_pairs_of_small_bounds(self):
        for kind in (BINARY, MOTZKIN, EVEN, HALVES):
            for places, degree in ((0, 0), (1, 1), (3, 2), (2, 3), (3, 3)):
                layouts = within(places, degree)
                for one in layouts[::2]:
                    right = distances(kind, one, places, degree)
                    for other in layouts:
                        self.assertEqual(distance(kind, Layout(one), Layout(other), places, degree), right.get(other))

    def test_shortest_ways(self):
        told = []
        for kind, one, other, places, degree in self.cases(300, 1):
            right = distances(kind, one, places, degree).get(other)
            arguments = (kind, Layout(one), Layout(other), places, degree)
            self.assertEqual(distance(*arguments), right)
            way = shortest(*arguments)
            told.append(right)
            if right is None:
                self.assertIsNone(way)
            else:
                self.assertIs(type(way), list)
                self.assertEqual([type(layout) for layout in way], [Layout] * (right + 1))
                self.assertEqual((way[0].factors, way[-1].factors), (one, other))
                for layout, behind in zip(way, way[1:]):
                    self.assertIn(behind.factors, next_ones(kind, layout.factors, places, degree))
        self.assertGreater(len(set(told)), 4)

    def test_the_widest_bounds(self):
        self.assertEqual(distance(BINARY, T, T ** 7, 6, 8), 18)
        for kind in KINDS:
            for one, other in ((T, T ** 7), (T, T + T ** 2), (Layout((6,)), Layout((5,))), (T ** 8, Layout((2, 2, 1)))):
                right = distances(kind, one.factors, 6, 8)
                self.assertEqual(distance(kind, one, other, 6, 8), right.get(other.factors))
                if right.get(other.factors) is not None:
                    self.assertTrue(are_like(kind, one, other))

    def test_bounds_keep_layouts_apart(self):
        self.assertEqual([distance(BINARY, T, FAR, places, 3) for places in (3, 4, 6)], [2, 2, 2])
        self.assertEqual([distance(BINARY, T, T ** 7, places, 8) for places in range(1, 7)].count(None), 3)
        self.assertTrue(are_like(BINARY, T, T ** 7))
        self.assertIsNone(distance(BINARY, Layout((1, 0, 1)), T + 1, 2, 2))
        self.assertEqual(distance(BINARY, Layout((1, 0, 1)), T, 2, 2), 1)
        # Closing needs a place of each variant, opening as many more places as there are variants, less one.
        self.assertEqual(distance(WIDE, Layout((0, 1)), Layout((0, 1)), 1, 1), 0)
        self.assertIsNone(distance(WIDE, Layout((2, 2, 1, 1)), T, 6, 8))

    def test_equal_layouts(self):
        for kind in KINDS:
            for layout, places, degree in ((T, 1, 1), (Layout(()), 0, 0), (Layout((3,)), 3, 0), (Layout([0] * 8 + [6]), 6, 8)):
                self.assertEqual(distance(kind, layout, layout, places, degree), 0)
                self.assertEqual(shortest(kind, layout, layout, places, degree), [layout])
                self.assertIsNone(closed_paper(kind, layout, layout, places, degree))
                paper = price_paper(kind, layout, layout, places, degree)
                self.assertIs(shows_distance(kind, layout, layout, places, degree, 0, paper), True)


class Papers(Case):
    def test_right_papers(self):
        seen = {True: 0, False: 0}
        for kind, one, other, places, degree in self.cases(200, 2):
            arguments = (kind, Layout(one), Layout(other), places, degree)
            far = distance(*arguments)
            prices, closed = price_paper(*arguments), closed_paper(*arguments)
            seen[far is None] += 1
            if far is None:
                self.assertIsNone(prices)
                self.assertIs(type(closed), list)
                self.assertEqual(sorted(closed), sorted(distances(kind, one, places, degree)))
                self.assertIs(shows_apart(*arguments, closed), True)
                self.assertIs(shows_apart(*arguments, closed[::-1]), True)
            else:
                self.assertIsNone(closed)
                self.assertIs(type(prices), dict)
                self.assertTrue(is_price_paper(kind, one, other, places, degree, far, prices))
                for number in range(far + 3):
                    self.assertIs(shows_distance(*arguments, number, prices), number <= far)
        self.assertGreater(min(seen.values()), 20)

    def test_price_papers_by_chance(self):
        chance = random.Random(3)
        told = []
        for kind, one, other, places, degree in self.cases(300, 4):
            right = distances(kind, one, places, degree)
            paper = {factors: far for factors, far in right.items() if chance.random() < 0.95}
            for factors in chance.sample(sorted(paper), min(len(paper), chance.randint(0, 2))):
                paper[factors] = max(0, paper[factors] + chance.choice((-1, 1, 1, 5)))
            for factors in chance.sample(within(places, degree), 1):
                paper.setdefault(factors, chance.randint(0, 3))
            if not chance.randint(0, 3):
                paper = {factors: 0 for factors in paper}
            for number in (0, 1, 2, right.get(other, 3), right.get(other, 3) + 1, 10 ** 49):
                arguments = (kind, Layout(one), Layout(other), places, degree, number, paper)
                told.append(shows_distance(*arguments))
                self.assertIs(told[-1], is_price_paper(kind, one, other, places, degree, number, paper))
                if told[-1]:
                    # What a paper shows is true.
                    self.assertGreaterEqual(right.get(other, number), number)
        self.assertGreater(told.count(True), 100)
        self.assertGreater(told.count(False), 100)

    def test_spoilt_price_papers(self):
        for number, paper in ((1, {(0, 1): 0}), (2, {(0, 1): 0, (1, 0, 1): 1})):
            self.assertIs(shows_distance(BINARY, T, FAR, 3, 3, number, paper), True)
            wrong = [
                {key: price for key, price in paper.items() if key != (0, 1)}, paper | {(0, 1): 1}, paper | {(0, 1): False},
                paper | {(1, 1, 0, 1): number - 1}, paper | {(1, 1, 0, 1): -1}, paper | {(1, 1, 0, 1): True},
                paper | {(2,): -1}, paper | {(2,): None}, paper | {(2,): "0"}, paper | {(2,): (0,)}, paper | {(2,): [0]},
                paper | {(2, 0): 0}, paper | {(0,): 0}, paper | {(4,): 0}, paper | {(0, 0, 0, 0, 1): 0}, paper | {(-1, 1): 0},
                {(0, True): 0}, paper | {(True,): 0}, paper | {"": 0}, paper | {None: 0}, paper | {1: 0},
                paper | {(None,): 0}, paper | {((0, 1),): 0}, paper | {("0", 1): 0}, list(paper.items()), tuple(paper.items()),
                [paper], (paper,), list(paper),
            ]
            for thing in wrong:
                self.assertIs(shows_distance(BINARY, T, FAR, 3, 3, number, thing), False)
            right = [
                paper | {(1, 1, 0, 1): number}, paper | {(1, 1, 0, 1): 10 ** 49}, paper | {(): 5}, paper | {(3,): 0}, dict(paper),
                paper | {(0, 0, 0, 3): 10 ** 49},
            ]
            for thing in right:
                self.assertIs(shows_distance(BINARY, T, FAR, 3, 3, number, thing), True)

    def test_closed_papers_by_chance(self):
        chance = random.Random(5)
        told = []
        for kind, one, other, places, degree in self.cases(400, 6):
            right = set(distances(kind, one, places, degree))
            more = set(distances(kind, chance.choice(within(places, degree)), places, degree)) if chance.random() < 0.5 else set()
            thing = sorted(right | more)
            if chance.random() < 0.3:
                thing.remove(chance.choice(thing))
            chance.shuffle(thing)
            told.append(shows_apart(kind, Layout(one), Layout(other), places, degree, thing))
            inside = set(thing)
            closed = all(next_ones(kind, factors, places, degree) <= inside for factors in thing)
            self.assertIs(told[-1], one in inside and other not in inside and closed)
        self.assertGreater(told.count(True), 30)
        self.assertGreater(told.count(False), 100)

    def test_spoilt_closed_papers(self):
        self.assertIs(shows_apart(BINARY, TWO, T, 1, 2, [(0, 0, 1)]), True)
        self.assertIs(shows_apart(BINARY, TWO, T, 1, 2, [(0, 0, 1), ()]), True)
        self.assertIs(shows_apart(BINARY, TWO, T, 1, 2, [(1,), (0, 0, 1), ()]), True)
        wrong = [
            [], [()], ((0, 0, 1),), {(0, 0, 1): 0}, {(0, 0, 1): True}, [(0, 0, 1), (0, 0, 1)], [(0, 0, 1), (0, 1)], [[0, 0, 1]],
            [(0, 0, 1), [1]], [(0, 0, True)], [(0, 0, 1), (True,)], [(0, 0, 1), (1, 0)], [(0, 0, 1), (2,)], [(0, 0, 1), None],
            [(0, 0, 1), (0, 0, 0, 1)], [(0, 0, 1), (-1, 1)], [(0, 0, 1), ((),)], [(0, 0, 1), {}], [(0, 0, 1), "1"], (0, 0, 1), "",
        ]
        for thing in wrong:
            self.assertIs(shows_apart(BINARY, TWO, T, 1, 2, thing), False)

    def test_other_objects(self):
        for thing in OTHERS + DEEP + LARGE:
            self.assertIs(shows_distance(BINARY, T, FAR, 3, 3, 1, thing), False)
            self.assertIs(shows_apart(BINARY, TWO, T, 1, 2, thing), False)
            self.assertIs(shows_apart(BINARY, TWO, T, 1, 2, [(0, 0, 1), thing]), thing == ())
            try:
                hash(thing)
            except TypeError:
                continue
            self.assertIs(shows_distance(BINARY, T, FAR, 3, 3, 1, {(0, 1): 0, thing: 3}), thing == ())

    def test_papers_are_new_and_stay_as_they_are(self):
        paper = price_paper(BINARY, T, FAR, 3, 3)
        paper.clear()
        self.assertEqual(price_paper(BINARY, T, FAR, 3, 3)[(0, 1)], 0)
        kept = {(0, 1): 0, (1, 0, 1): 1}
        shows_distance(BINARY, T, FAR, 3, 3, 2, kept)
        self.assertEqual(list(kept.items()), [((0, 1), 0), ((1, 0, 1), 1)])
        closed = closed_paper(BINARY, TWO, T, 1, 2)
        shows_apart(BINARY, TWO, T, 1, 2, closed)
        closed.append(())
        self.assertEqual(closed_paper(BINARY, TWO, T, 1, 2), [(0, 0, 1)])


class Errors(Case):
    def all_calls(self, *arguments):
        """Each function with these arguments, and with any paper."""
        calls = [(call, arguments) for call in CALLS]
        calls += [(shows_distance, arguments + (number, thing)) for number in (0, 3) for thing in (None, {}, {(0, 1): 0})]
        return calls + [(shows_apart, arguments + (thing,)) for thing in (None, [], [(0, 0, 1)])]

    def test_no_kind_first(self):
        for thing in OTHERS + DEEP + LARGE + (BINARY[:1], list(BINARY)):
            for places, degree in ((3, 3), (None, 3), (0, 0)):
                for call, arguments in self.all_calls(thing, T, FAR, places, degree):
                    self.assertRaises(NoKind, call, *arguments)

    def test_no_number_then_mismatch(self):
        for thing in OTHERS + DEEP + LARGE:
            if thing is True or thing is False or thing not in (0, 1):
                for call, arguments in self.all_calls(BINARY, T, FAR, thing, 3) + self.all_calls(BINARY, T, FAR, 3, thing):
                    self.assertRaises(NoNumber, call, *arguments)
        for places, degree in ((7, 8), (6, 9), (-1, 3), (3, -1), (0, 9), (7, 0)):
            for call, arguments in self.all_calls(BINARY, T, FAR, places, degree):
                self.assertRaises(NoNumber, call, *arguments)

    def test_mismatch(self):
        for places, degree in ((2, 3), (3, 2), (0, 0), (1, 8), (6, 1)):
            for call, arguments in self.all_calls(BINARY, T, FAR, places, degree) + self.all_calls(BINARY, FAR, T, places, degree):
                self.assertRaises(Mismatch, call, *arguments)
        for layout in (Layout((7,)), Layout([0] * 9 + [1]), Layout([10 ** 49]), Layout([1] * 41)):
            for call, arguments in self.all_calls(BINARY, layout, layout, 6, 8):
                self.assertRaises(Mismatch, call, *arguments)
        self.assertEqual(distance(BINARY, Layout(()), Layout(()), 0, 0), 0)
        self.assertIsNone(distance(BINARY, Layout(()), Layout((1,)), 1, 0))


class TheInterface(Case):
    def test_the_example(self):
        kind, t = (("leaf", 0), ("join", 2)), Layout((0, 1))
        far, two = Layout((1, 1, 0, 1)), Layout((0, 0, 1))
        self.assertEqual(
            [distance(kind, t, far, 3, 3), distance(kind, two, t, 1, 2), closed_paper(kind, two, t, 1, 2)], [2, None, [(0, 0, 1)]])
        self.assertIs(shows_apart(kind, two, t, 1, 2, []), False)
        told = [shows_distance(kind, t, far, 3, 3, number, {(0, 1): 0, (1, 0, 1): 1}) for number in (1, 2, 3)]
        self.assertEqual(told, [True, True, False])

    def test_it_is_defined_in_its_file(self):
        for name in ("distance", "shortest", "price_paper", "closed_paper", "shows_distance", "shows_apart"):
            self.assertEqual(getattr(fewest, name).__module__, "layoutswap.fewest")
        self.assertEqual(distance(FOUR, T, T, 1, 1), 0)


if __name__ == "__main__":
    unittest.main()
