"""Rests (points 2, 9, 10 and 12, stage 5 of the interface)."""

import itertools
import operator
import random
import unittest

from layoutswap import rests
from layoutswap.errors import Mismatch, NoKind, NoNumber
from layoutswap.layouts import Layout
from layoutswap.rests import Rest, are_like, multiple, period, quotient
from oracle import BINARY, EVEN, FOUR, HALVES, KINDS, MOTZKIN, OTHERS, TURNED, WIDE, cut, divides, f_of, plus, times
from things import DEEP, LARGE

T = Layout((0, 1))
# F is 3*t^2 + 3, 7*t^2 - t + 1, t^4 + t^3 + t^2 + t + 1, t^4 + 1 and 2*t^3 + 2.
THREES = (("a", 0), ("b", 0), ("c", 0), ("u", 1), ("x", 2), ("y", 2), ("z", 2))
SEVENS = tuple(("v" + str(at), 2) for at in range(7)) + (("z", 0),)
FIFTH = (("a", 0), ("b", 1), ("c", 1), ("d", 2), ("e", 3), ("f", 4))
EIGHTH = (("a", 0), ("u", 1), ("f", 4))
TWOS = (("a", 0), ("b", 0), ("u", 1), ("c", 3), ("d", 3))
ALL = KINDS + (THREES, SEVENS, FIFTH, EIGHTH, TWOS)
GREAT = 10 ** 12


class Case(unittest.TestCase):
    def assert_rest(self, rest, kind, factors):
        """It is the rest of this polynomial by the words of point 9, with attributes of the right kinds of values."""
        self.assertIs(type(rest), Rest)
        self.assertEqual(rest.kind, kind)
        self.assertIs(type(rest.factors), tuple)
        self.assertEqual(rest.factors, cut(rest.factors))
        whole = f_of(kind)
        for factor in rest.factors[len(whole) - 1:]:
            self.assertIn(factor, range(whole[-1]))
        self.assertTrue(divides(plus(factors, rest.factors, -1), whole))


class Rests(Case):
    def test_small_polynomials(self):
        for kind in ALL:
            for many in range(5):
                for factors in itertools.product((-2, 0, 1, 3), repeat=many):
                    self.assert_rest(Rest(kind, factors), kind, factors)

    def test_great_factors_of_either_sign(self):
        chance = random.Random(1)
        for kind in ALL:
            for many in (1, 2, 3, 4, 5, 8, 20, 41):
                for _ in range(4):
                    factors = [chance.choice((0, chance.randint(-GREAT, GREAT))) for _ in range(many)]
                    self.assert_rest(Rest(kind, factors), kind, factors)
                    self.assert_rest(Rest(kind, tuple(factors)), kind, factors)
            for factors in ([GREAT] * 9, [-GREAT] * 9, [GREAT, -GREAT] * 5, [10 ** 50 - 1] * 6, [0] * 40 + [-1]):
                self.assert_rest(Rest(kind, factors), kind, factors)

    def test_factors_that_stay(self):
        self.assertEqual(Rest(SEVENS, (-5, 9, 6, 0, 6)).factors, (-5, 9, 6, 0, 6))
        self.assertEqual(Rest(SEVENS, (-5, 9, 7)).factors, (-6, 10))
        self.assertEqual(Rest(SEVENS, (-5, 9, -1)).factors, (-4, 8, 6))
        self.assertEqual(Rest(BINARY, (0, 0, 1)).factors, (-1, 1))
        self.assertEqual(Rest(BINARY, (4, -7, 0, 0)).factors, (4, -7))
        self.assertEqual(Rest(EVEN, (0, 0, 1)).factors, (0, 0, 1))
        self.assertEqual(Rest(EVEN, (0, 0, 2)).factors, (-2,))
        self.assertEqual(Rest(EVEN, (0, 0, 3, 0)).factors, (-2, 0, 1))
        for factors in ((), (0,), [0, 0, 0], [0] * 5000):
            self.assertEqual(Rest(BINARY, factors).factors, ())

    def test_equal_rests_differ_by_a_multiple_of_f(self):
        chance = random.Random(2)
        for kind in ALL:
            whole = f_of(kind)
            for _ in range(20):
                one = [chance.randint(-9, 9) for _ in range(chance.randint(0, 6))]
                more = [chance.randint(-9, 9) for _ in range(chance.randint(0, 6))]
                self.assertEqual(Rest(kind, plus(one, times(whole, more))).factors, Rest(kind, one).factors)

    def test_the_list_may_be_changed_behind_the_call(self):
        factors = [1, 2, 3]
        rest = Rest(BINARY, factors)
        self.assertEqual(factors, [1, 2, 3])
        factors[0] = 9
        factors.append(1)
        self.assertEqual(rest.factors, (-2, 5))

    def test_of_layouts(self):
        for kind in ALL:
            for factors in ((), (5,), (0, 1), (1, 2, 3, 4, 5, 6), (0,) * 40 + (7,), (10 ** 49,) * 41):
                self.assert_rest(Rest.of(kind, Layout(factors)), kind, factors)

    def test_no_kind_then_no_number(self):
        for thing in OTHERS + DEEP + LARGE + (list(BINARY), (("a", 0), ("b", 1))):
            self.assertRaises(NoKind, Rest, thing, (1, 2))
            self.assertRaises(NoKind, Rest, thing, None)
            self.assertRaises(NoKind, Rest.of, thing, T)
            self.assertRaises(NoKind, are_like, thing, T, T)
            self.assertRaises(NoKind, quotient, thing, T, T)
            self.assertRaises(NoKind, period, thing)
            self.assertRaises(NoKind, multiple, thing, T, T)
        things = [None, True, 0, 1, "", "12", {}, {1: 1}, T, [True], [False], (True, 1), [None], ["1"], [[1]], [1.0], (1, (2,))]
        for thing in things + list(DEEP) + list(LARGE):
            self.assertRaises(NoNumber, Rest, BINARY, thing)


class Signs(Case):
    def some(self, kind):
        chance = random.Random(3)
        many = [chance.randint(0, 5) for _ in range(7)]
        return [()] + [tuple(chance.randint(-GREAT, GREAT) for _ in range(n)) for n in many] + [(0, 1), (-1, 0, 2)]

    def test_between_rests(self):
        for kind in ALL:
            for one, other in itertools.product(self.some(kind), repeat=2):
                first, second = Rest(kind, one), Rest(kind, other)
                kept = (first.factors, second.factors)
                self.assert_rest(first + second, kind, plus(one, other))
                self.assert_rest(first - second, kind, plus(one, other, -1))
                self.assert_rest(first * second, kind, times(one, other))
                self.assertEqual((first.factors, second.factors), kept)

    def test_with_integers_on_either_side(self):
        for kind in ALL:
            for factors in self.some(kind):
                rest = Rest(kind, factors)
                for n in (0, 1, -1, 6, -GREAT, 10 ** 49):
                    self.assert_rest(rest + n, kind, plus(factors, (n,)))
                    self.assert_rest(n + rest, kind, plus(factors, (n,)))
                    self.assert_rest(rest - n, kind, plus(factors, (n,), -1))
                    self.assert_rest(n - rest, kind, plus((n,), factors, -1))
                    self.assert_rest(rest * n, kind, times(factors, (n,)))
                    self.assert_rest(n * rest, kind, times(factors, (n,)))
                self.assert_rest(-rest, kind, plus((), factors, -1))
                self.assertEqual((rest - rest).factors, ())

    def test_powers(self):
        for kind in ALL:
            for factors in ((), (1,), (0, 1), (-3, 2), (1, 1, 1), (GREAT, -GREAT)):
                power = (1,)
                for n in range(21):
                    found = Rest(kind, factors) ** n
                    self.assertEqual(found, Rest(kind, power))
                    self.assertIs(type(found), Rest)
                    power = (Rest(kind, times(power, factors))).factors
            self.assert_rest(Rest(kind, (1, 2)) ** 3, kind, times((1, 2), times((1, 2), (1, 2))))

    def test_in_place(self):
        rest = kept = Rest(BINARY, (1, 2))
        rest += kept
        rest *= 3
        rest -= 1
        self.assertEqual((rest.factors, kept.factors), ((5, 12), (1, 2)))
        rest = kept
        rest **= 2
        self.assertEqual((rest.factors, kept.factors), ((-3, 8), (1, 2)))

    def test_two_kinds(self):
        for one, other in itertools.permutations(ALL, 2):
            for factors in ((), (1,), (1, 2)):
                for sign in (operator.add, operator.sub, operator.mul):
                    self.assertRaises(Mismatch, sign, Rest(one, factors), Rest(other, factors))
                self.assertIs(Rest(one, factors) == Rest(other, factors), False)
        self.assertRaises(Mismatch, operator.add, Rest(BINARY, (1,)), Rest(TURNED, (1,)))

    def test_other_objects_beside_a_sign(self):
        for thing in (None, "1", [1], (1,), {}, True, T, 1.0):
            for sign in (operator.add, operator.sub, operator.mul):
                self.assertRaises(TypeError, sign, Rest(BINARY, (1,)), thing)
                self.assertRaises(TypeError, sign, thing, Rest(BINARY, (1,)))

    def test_equality_and_bool(self):
        for kind in ALL:
            for one, other in itertools.product(self.some(kind), repeat=2):
                told = divides(plus(one, other, -1), f_of(kind))
                self.assertIs(Rest(kind, one) == Rest(kind, other), told)
                self.assertIs(Rest(kind, one) != Rest(kind, other), not told)
            self.assertIs(bool(Rest(kind, ())), False)
            self.assertIs(bool(Rest(kind, f_of(kind))), False)
            self.assertIs(bool(Rest(kind, (1,))), True)
            self.assertIs(bool(Rest(kind, (0, -1))), True)
        for thing in OTHERS + DEEP + (T, (0, 1), [0, 1]):
            for factors in ((), (1,), (0, 1)):
                self.assertIs(Rest(BINARY, factors) == thing, False)
                self.assertIs(thing == Rest(BINARY, factors), False)

    def test_texts(self):
        cases = {
            (): "0", (1,): "1", (-1,): "-1", (5, 1): "t + 5", (-1, 1): "t - 1", (1, -1): "-t + 1", (-7, -2): "-2*t - 7",
            (0, -1): "-t", (0, 1): "t", (-3, 4, 1, 0, 6): "6*t^4 + t^2 + 4*t - 3", (0, -1, 2): "2*t^2 - t", (0, 0, 6): "6*t^2",
            (-10, -1, 0, 3): "3*t^3 - t - 10",
        }
        for factors, text in cases.items():
            self.assertEqual(str(Rest(SEVENS, factors)), text)
        self.assertEqual(str(Rest(BINARY, (-GREAT, -GREAT))), f"-{GREAT}*t - {GREAT}")


class Orders(Case):
    def test_the_least_by_trying(self):
        for kind in ALL:
            whole = f_of(kind)
            for many in range(6):
                for factors in itertools.product((-1, 0, 1, 2), repeat=many):
                    rest = Rest(kind, factors)
                    tried = [m for m in range(1, 13) if divides([m * factor for factor in factors], whole)]
                    self.assertEqual(rest.order(), tried[0] if tried else None)

    def test_of_zero_and_of_none(self):
        for kind in ALL:
            self.assertEqual(Rest(kind, ()).order(), 1)
            self.assertIsNone(Rest(kind, (1,)).order())
            self.assertIsNone(Rest(kind, (0, GREAT)).order())
        # F is twice t^2 + 1, thrice t^2 + 1, and twice t^3 + 1.
        self.assertEqual(Rest(EVEN, (1, 0, 1)).order(), 2)
        self.assertEqual(Rest(EVEN, times((1, 0, 1), (4, 6, 2))).order(), 1)
        self.assertEqual([Rest(THREES, (n, 0, n)).order() for n in (1, 2, 3, -1, 6, GREAT)], [3, 3, 1, 3, 1, 3])
        self.assertEqual([Rest(TWOS, (n, 0, 0, n)).order() for n in (1, 2, 3, 4, -GREAT)], [2, 1, 2, 1, 1])


class Like(Case):
    LAYOUTS = [Layout(factors) for many in range(4) for factors in itertools.product(range(3), repeat=many)]

    def test_by_the_words_of_point_10(self):
        for kind in (BINARY, MOTZKIN, EVEN, WIDE, SEVENS):
            for one, other in itertools.product(self.LAYOUTS, repeat=2):
                less = plus(one.factors, other.factors, -1)
                told = not less or bool(divides(less, f_of(kind)) and one.degree > 0 and other.degree > 0)
                self.assertIs(are_like(kind, one, other), told)

    def test_like_layouts_of_great_degrees(self):
        for kind in ALL:
            for k in range(1, 37):
                less = [0] * k + [max(0, -factor) for factor in f_of(kind)]
                more = [0] * k + [max(0, factor) for factor in f_of(kind)]
                for one in (Layout(less) + T, Layout(less) + T * GREAT + 7):
                    other = Layout(plus(plus(one.factors, less, -1), more))
                    self.assertIs(are_like(kind, one, other), True)
                    self.assertIs(are_like(kind, other, one), True)
                    self.assertIs(are_like(kind, one, other + 1), False)
        self.assertIs(are_like(BINARY, T ** 7, T), True)
        self.assertIs(are_like(BINARY, T ** 37, T), True)
        self.assertIs(are_like(BINARY, T ** 36, T), False)
        self.assertIs(are_like(MOTZKIN, T ** 5, T), True)
        self.assertIs(are_like(MOTZKIN, T ** 3, T), False)

    def test_constant_and_empty_layouts(self):
        for kind in ALL:
            constants = [Layout(()), Layout((1,)), Layout((2,)), Layout((GREAT,))]
            for one, other in itertools.product(constants, repeat=2):
                self.assertIs(are_like(kind, one, other), one == other)
                self.assertEqual(multiple(kind, one, other), 1 if one == other else None)
            for constant in constants:
                # The same rest, but nothing can be done at a constant layout.
                more = plus(constant.factors, [abs(factor) for factor in f_of(kind)])
                for other in (T, Layout(more)):
                    self.assertIs(are_like(kind, constant, other), False)
                    self.assertIs(are_like(kind, other, constant), False)
                    self.assertIsNone(multiple(kind, constant, other))
                    self.assertIsNone(multiple(kind, other, constant))
        self.assertIs(are_like(MOTZKIN, Layout((0,)), Layout((1, 0, 1))), False)
        self.assertEqual(quotient(MOTZKIN, Layout((1, 0, 1)), Layout(())), (1,))


class Quotients(Case):
    def test_quotients_forth_and_back(self):
        chance = random.Random(4)
        for kind in ALL:
            whole = f_of(kind)
            for _ in range(30):
                wanted = cut(chance.randint(-GREAT, GREAT) for _ in range(chance.randint(0, 30)))
                less = times(whole, wanted)
                base = [chance.randint(0, 9) for _ in range(35)]
                one = Layout(plus(base, [max(0, factor) for factor in less]))
                other = Layout(plus(base, [max(0, -factor) for factor in less]))
                self.assertEqual(quotient(kind, one, other), wanted)
                self.assertEqual(quotient(kind, other, one), tuple(-factor for factor in wanted))
                self.assertIs(type(quotient(kind, one, other)), tuple)
                self.assertEqual(quotient(kind, one, one), ())
                self.assertIsNone(quotient(kind, one + 1, other))
                self.assertIsNone(quotient(kind, one, other + T))

    def test_none(self):
        for kind in ALL:
            self.assertIsNone(quotient(kind, T, Layout(())))
            self.assertIsNone(quotient(kind, Layout(()), Layout((1,))))
            self.assertIsNone(quotient(kind, Layout((1,)), T ** 39))
        # What F divides but for its factor is none.
        self.assertIsNone(quotient(EVEN, T * T + 1, 0 * T))
        self.assertEqual(quotient(EVEN, 2 * T * T + 2, 0 * T), (1,))
        self.assertEqual(quotient(EVEN, T, 2 * T ** 3 + 3 * T), (0, -1))


class Periods(Case):
    def test_by_trying(self):
        for kind in ALL:
            tried = [d for d in range(1, 121) if divides([0, -1] + [0] * (d - 1) + [1], f_of(kind))]
            self.assertEqual(period(kind), tried[0] if tried else None)

    def test_all_periods_of_few_variants(self):
        found = set()
        for numbers in itertools.product(range(3), range(4), range(3), range(3), range(3)):
            kind = tuple((f"v{at}x{k}", k) for k, many in enumerate(numbers) for at in range(many))
            if numbers[0] and any(numbers[2:]) and len(kind) <= 8:
                d = period(kind)
                found.add(d)
                if d is not None:
                    self.assertEqual(120 % d, 0)
                    self.assertTrue(divides([0, -1] + [0] * (d - 1) + [1], f_of(kind)))
        self.assertEqual(found, {None, 3, 4, 5, 6, 8, 12})

    def test_some(self):
        kinds = (BINARY, MOTZKIN, EVEN, THREES, SEVENS, FIFTH, EIGHTH)
        self.assertEqual([period(kind) for kind in kinds], [6, 4, None, None, None, 5, 8])
        self.assertEqual(period((("a", 0), ("u", 1), ("v", 1), ("c", 2))), 3)
        self.assertIsNone(period((("a", 0), ("u", 1), ("v", 1), ("w", 1), ("c", 2))))


class Multiples(Case):
    def test_by_trying(self):
        layouts = [Layout(factors) for factors in itertools.product(range(3), repeat=4)]
        for kind in (BINARY, EVEN, TWOS, HALVES, FOUR):
            for one, other in itertools.product(layouts[::5] + layouts[1:9], repeat=2):
                tried = [m for m in range(1, 7) if are_like(kind, one * m, other * m)]
                self.assertEqual(multiple(kind, one, other), tried[0] if tried else None)

    def test_some(self):
        self.assertEqual(multiple(THREES, T ** 3 + T, 2 * T ** 5 + 2 * T ** 3), 3)
        self.assertIsNone(multiple(THREES, T ** 3, T))
        self.assertEqual(multiple(THREES, T ** 5, T), 3)
        self.assertEqual(multiple(BINARY, T ** 7, T), 1)
        self.assertIsNone(multiple(BINARY, T ** 2, T))
        self.assertEqual(multiple(EVEN, T ** 5, T), 2)


class TheInterface(Case):
    def test_the_example(self):
        binary, even = (("leaf", 0), ("join", 2)), (("a", 0), ("b", 0), ("u", 1), ("j", 2), ("k", 2))
        t = Layout.trees(1)
        told = [Rest.of(binary, t ** 8).factors, str(Rest.of(binary, t ** 2)), period(binary)]
        self.assertEqual(told, [(-1, 1), "t - 1", 6])
        told = [quotient(binary, t ** 4 + t, 0 * t), Rest(even, (1, 0, 1)).order(), multiple(even, t ** 3 + 2 * t, t)]
        self.assertEqual(told, [(0, 1, 1), 2, 2])
        self.assertEqual((Rest(binary, (0, 1)) ** 3).factors, (-1,))

    def test_each_name_is_defined_in_its_file(self):
        for name in ("Rest", "are_like", "quotient", "period", "multiple"):
            self.assertEqual(getattr(rests, name).__module__, "layoutswap.rests")
        signs = "add radd sub rsub mul rmul neg pow eq bool str".split()
        for name in ["of", "order"] + [f"__{sign}__" for sign in signs]:
            self.assertIn(name, vars(Rest))


if __name__ == "__main__":
    unittest.main()
