"""Layouts (points 2 and 5, stage 2 of the interface)."""

import itertools
import operator
import unittest

from layoutswap import layouts
from layoutswap.errors import NoLayout, TooMany
from layoutswap.layouts import Layout
from oracle import OTHERS, cut, plus, times
from things import DEEP, LARGE

SMALL = [factors for many in range(4) for factors in itertools.product(range(3), repeat=many)]
T = Layout((0, 1))
GREAT = 10 ** 49


class Case(unittest.TestCase):
    def assert_layout(self, layout, factors):
        """The layout has these factors, in its attributes, of the right kinds of values."""
        self.assertIs(type(layout), Layout)
        self.assertEqual(layout.factors, cut(factors))
        self.assertIs(type(layout.factors), tuple)
        self.assertEqual(layout.degree, len(cut(factors)) - 1)

    def assert_too_many(self, call, *arguments):
        with self.assertRaises(TooMany) as caught:
            call(*arguments)
        self.assertEqual(caught.exception.limit, 40)


class Factors(Case):
    def test_lists_and_tuples(self):
        for factors in SMALL:
            self.assert_layout(Layout(factors), factors)
            self.assert_layout(Layout(list(factors)), factors)

    def test_zeros_at_the_end_are_left_out(self):
        for factors in ((), (0,), (0, 0, 0), [0] * 100, (1, 0), (0, 1, 0, 0), [5, 0, 7, 0], (3,) + (0,) * 60):
            self.assert_layout(Layout(factors), factors)
        self.assertEqual(Layout([0] * 5000).factors, ())

    def test_great_factors(self):
        self.assert_layout(Layout((GREAT, 0, GREAT + 1)), (GREAT, 0, GREAT + 1))

    def test_the_list_may_be_changed_behind_the_call(self):
        factors = [1, 2, 0]
        layout = Layout(factors)
        self.assertEqual(factors, [1, 2, 0])
        factors[0] = 7
        factors.append(9)
        self.assert_layout(layout, (1, 2))
        factors[:] = []
        self.assertEqual((layout.factors, layout[0], str(layout)), ((1, 2), 1, "2*t + 1"))

    def test_degrees_about_the_bound(self):
        for degree in (39, 40):
            self.assert_layout(Layout([0] * degree + [1]), [0] * degree + [1])
            self.assert_layout(Layout((1,) * (degree + 1)), (1,) * (degree + 1))
            self.assert_layout(Layout([2] * (degree + 1) + [0, 0]), [2] * (degree + 1))
        for degree in (41, 42, 43, 1000):
            self.assert_too_many(Layout, [0] * degree + [1])
            self.assert_too_many(Layout, (1,) * (degree + 1))
            self.assert_layout(Layout([1] * 41 + [0] * degree), [1] * 41)

    def test_objects_that_are_no_factors(self):
        things = [None, True, False, 0, 1, -1, "", "12", "t", {}, {0: 1}, {1}, Layout((1,)), b"12", range(3), 1.5]
        things += [[part] for part in (True, False, None, "1", "", -1, -GREAT, [], [1], (), (1,), {}, 1.0, T)]
        things += [(1, 2, part) for part in (True, False, None, "1", -1, [1])] + [[-1, 0], [0, -1], [True, True]]
        for thing in things + list(DEEP) + list(LARGE):
            with self.subTest(repr(thing)[:60]):
                self.assertRaises(NoLayout, Layout, thing)

    def test_no_layout_is_told_ahead_of_too_many(self):
        for wrong in (True, -1, None, "1"):
            self.assertRaises(NoLayout, Layout, [1] * 50 + [wrong])
            self.assertRaises(NoLayout, Layout, [wrong] + [1] * 50)
        self.assertRaises(NoLayout, Layout, [0] * 60 + [False])


class Values(Case):
    def test_total_and_constant(self):
        for factors in SMALL + [(GREAT, 1, GREAT)]:
            layout = Layout(factors)
            self.assertEqual(layout.total, sum(factors))
            self.assertIs(layout.constant, not any(factors[1:]))

    def test_trees(self):
        for k in range(41):
            self.assert_layout(Layout.trees(k), [0] * k + [1])
        for k in (41, 42, 60):
            self.assert_too_many(Layout.trees, k)

    def test_number(self):
        for n in (0, 1, 2, 7, GREAT):
            self.assert_layout(Layout.number(n), (n,))

    def test_joined(self):
        self.assert_layout(Layout.joined(), ())
        for one, other in itertools.product(SMALL[:20], repeat=2):
            first, second = Layout(one), Layout(other)
            self.assert_layout(Layout.joined(first), one)
            self.assert_layout(Layout.joined(first, second), plus(one, other))
            self.assert_layout(Layout.joined(first, second, first), plus(plus(one, other), one))
        self.assert_layout(Layout.joined(*[Layout.trees(k) for k in range(41)]), (1,) * 41)
        self.assertEqual(Layout.joined(*[T] * 500).factors, (0, 500))

    def test_items_at_any_integer(self):
        for factors in SMALL:
            layout = Layout(factors)
            for k in range(-5, 50):
                factor = factors[k] if 0 <= k < len(factors) else 0
                self.assertEqual(layout[k], factor)
                self.assertIs(k in layout, factor != 0)
        for k in (-1, 41, GREAT, -GREAT):
            self.assertEqual((Layout((1,) * 41)[k], k in Layout((1,) * 41)), (0, False))

    def test_len_and_bool(self):
        for factors in SMALL:
            layout = Layout(factors)
            self.assertEqual(len(layout), sum(factor != 0 for factor in factors))
            self.assertIs(bool(layout), any(factors))
        self.assertEqual(len(Layout((1,) * 41)), 41)

    def test_the_value_at_an_integer(self):
        for factors in SMALL:
            for n in (-3, -1, 0, 1, 2, 10, GREAT):
                self.assertEqual(Layout(factors)(n), sum(factor * n ** k for k, factor in enumerate(factors)))
        self.assertEqual((T ** 40)(10), 10 ** 40)

    def test_texts(self):
        cases = {
            (): "0", (0, 0): "0", (1,): "1", (7,): "7", (0, 1): "t", (0, 2): "2*t", (1, 1): "t + 1", (0, 0, 1): "t^2",
            (5, 1, 0, 2): "2*t^3 + t + 5", (2, 3, 1): "t^2 + 3*t + 2", (10, 0, 0, 11): "11*t^3 + 10", (0, 10): "10*t",
        }
        for factors, text in cases.items():
            self.assertEqual(str(Layout(factors)), text)
        self.assertEqual(str(Layout.trees(40) + GREAT), f"t^40 + {GREAT}")

    def test_it_is_not_gone_through(self):
        for call in (iter, list, tuple, sorted):
            self.assertRaises(TypeError, call, T)


class Signs(Case):
    def test_sums_and_products_of_layouts(self):
        for one, other in itertools.product(SMALL, repeat=2):
            first, second = Layout(one), Layout(other)
            self.assert_layout(first + second, plus(one, other))
            self.assert_layout(first * second, times(one, other))
            self.assertEqual((first.factors, second.factors), (cut(one), cut(other)))

    def test_sums_and_products_with_integers(self):
        for factors in SMALL:
            layout = Layout(factors)
            for n in (0, 1, 5, GREAT):
                self.assert_layout(layout + n, plus(factors, (n,)))
                self.assert_layout(n + layout, plus(factors, (n,)))
                self.assert_layout(layout * n, times(factors, (n,)))
                self.assert_layout(n * layout, times(factors, (n,)))
            self.assertEqual(layout.factors, cut(factors))
        self.assertEqual(sum([T, T + 1], 3).factors, (4, 2))

    def test_powers(self):
        for factors in SMALL:
            power = (1,)
            for n in range(13):
                self.assert_layout(Layout(factors) ** n, power)
                power = cut(times(power, factors))
            self.assertEqual((Layout(factors) ** 0).factors, (1,))
        self.assert_layout(T ** 40, [0] * 40 + [1])
        self.assert_layout((T + 1) ** 40, self.row(40))
        self.assert_layout((T * T) ** 20, [0] * 40 + [1])
        self.assert_layout(Layout((3,)) ** 40, (3 ** 40,))
        self.assert_layout(Layout(()) ** 40, ())

    def row(self, n):
        """The factors of (t + 1)^n."""
        row = [1]
        for _ in range(n):
            row = times(row, (1, 1))
        return row

    def test_more_trees(self):
        for factors in SMALL:
            for k in (0, 1, 2, 37, 38):
                self.assert_layout(Layout(factors) << k, (0,) * k + factors)
        self.assert_layout(Layout(()) << 40, ())
        self.assert_layout(Layout((4,)) << 40, [0] * 40 + [4])

    def test_too_many_just_above_the_bound(self):
        for j in range(42):
            for k in range(42 - j):
                if max(j, k) <= 40 and j + k <= 41:
                    one, other = Layout.trees(j) + 1, Layout.trees(k)
                    if j + k <= 40:
                        self.assertEqual(((one * other).degree, (other << j).degree), (j + k, j + k))
                    else:
                        self.assert_too_many(operator.mul, one, other)
                        self.assert_too_many(operator.lshift, one, k)
        for layout, n in ((T, 41), (T + 5, 41), (T * T, 21), (T ** 14, 3), (T ** 40, 2), (T ** 7 + 1, 6)):
            self.assert_too_many(operator.pow, layout, n)
            self.assertEqual((layout ** (n - 1)).degree, layout.degree * (n - 1))
        self.assert_too_many(operator.lshift, T, 40)
        self.assert_too_many(operator.lshift, T ** 40, 1)
        self.assertEqual(((T ** 40) * 0).factors, ())
        self.assertEqual((T ** 40 + T ** 40 * 3).factors, (0,) * 40 + (4,))

    def test_in_place(self):
        layout = kept = Layout((1, 2))
        layout += T
        self.assertEqual((layout.factors, kept.factors), ((1, 3), (1, 2)))
        layout += 4
        layout *= kept
        self.assertEqual((layout.factors, kept.factors), ((5, 13, 6), (1, 2)))
        layout *= 2
        layout **= 2
        self.assertEqual(layout.factors, cut(times((10, 26, 12), (10, 26, 12))))
        layout = kept
        layout <<= 3
        self.assertEqual((layout.factors, kept.factors), ((0, 0, 0, 1, 2), (1, 2)))
        number = 3
        number += kept
        self.assertEqual((number.factors, kept.factors), ((4, 2), (1, 2)))
        number = 3
        number *= kept
        self.assertEqual((number.factors, kept.factors), ((3, 6), (1, 2)))
        self.assert_too_many(operator.ilshift, kept, 40)
        self.assert_too_many(operator.imul, kept, T ** 40)
        self.assertEqual((kept.factors, kept.degree), ((1, 2), 1))

    def test_other_objects_beside_a_sign(self):
        for thing in ("1", None, [1], (0, 1), {}, -1, True, 1.0):
            for sign in (operator.add, operator.mul):
                self.assertRaises(TypeError, sign, T, thing)
                self.assertRaises(TypeError, sign, thing, T)
            self.assertRaises(TypeError, operator.lshift, T, thing)
            self.assertRaises(TypeError, operator.pow, T, thing)


class Orders(Case):
    def test_equality(self):
        for one, other in itertools.product(SMALL, repeat=2):
            self.assertIs(Layout(one) == Layout(list(other)), cut(one) == cut(other))
            self.assertIs(Layout(one) != Layout(other), cut(one) != cut(other))

    def test_equality_with_other_objects(self):
        for thing in OTHERS + DEEP + LARGE + ((0, 1), [0, 1], 1, 5, "t"):
            for layout in (T, Layout(()), Layout((1,)), Layout((5,))):
                self.assertIs(layout == thing, False)
                self.assertIs(thing == layout, False)
                self.assertIs(layout != thing, True)

    def test_the_four_orders(self):
        for one, other in itertools.product(SMALL, repeat=2):
            first, second = (len(cut(one)), cut(one)[::-1]), (len(cut(other)), cut(other)[::-1])
            self.assertIs(Layout(one) < Layout(other), first < second)
            self.assertIs(Layout(one) <= Layout(other), first <= second)
            self.assertIs(Layout(one) > Layout(other), first > second)
            self.assertIs(Layout(one) >= Layout(other), first >= second)

    def test_the_degree_is_ahead_of_the_factors(self):
        row = [(), (1,), (9,), (0, 1), (9, 1), (0, 2), (0, 0, 1), (1, 0, 1), (0, 1, 1), (9, 9, 9), (0,) * 40 + (1,)]
        found = sorted([Layout(factors) for factors in row[::-1]])
        self.assertEqual([layout.factors for layout in found], row)

    def test_other_objects_have_no_order_beside_it(self):
        for thing in (1, "t", None, (0, 1)):
            for sign in (operator.lt, operator.le, operator.gt, operator.ge):
                self.assertRaises(TypeError, sign, T, thing)


class TheInterface(Case):
    def test_the_example(self):
        t = Layout.trees(1)
        one = 2 * t ** 3 + t + 5
        told = [str(one), one.factors, one.degree, one.total, one[1], one[9], 2 in one, len(one), one(10)]
        self.assertEqual(told, ["2*t^3 + t + 5", (5, 1, 0, 2), 3, 8, 1, 0, False, 3, 2015])
        told = [str((t + 1) * (t + 2)), str(t << 4), one < t ** 4, Layout([0, 0]).constant, str(Layout.joined(t, one, t))]
        self.assertEqual(told, ["t^2 + 3*t + 2", "t^5", True, True, "2*t^3 + 3*t + 5"])

    def test_it_is_defined_in_its_file_with_all_its_methods(self):
        self.assertEqual(layouts.Layout.__module__, "layoutswap.layouts")
        signs = "add radd mul rmul pow lshift eq lt le gt ge getitem contains len bool call str".split()
        for name in ["total", "constant", "trees", "number", "joined"] + [f"__{sign}__" for sign in signs]:
            self.assertIn(name, vars(Layout))


if __name__ == "__main__":
    unittest.main()
