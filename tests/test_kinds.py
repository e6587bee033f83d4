"""Kinds and their polynomials (points 2, 3 and 9, stage 1 of the interface)."""

import itertools
import unittest

from layoutswap import kinds
from layoutswap.kinds import difference, is_kind, parts_of, polynomial, tags_of
from things import DEEP, LARGE

BINARY = (("leaf", 0), ("join", 2))
EVEN = (("a", 0), ("b", 0), ("u", 1), ("j", 2), ("k", 2))
WIDE = tuple(("v" + str(at), parts) for at, parts in enumerate((4, 3, 2, 1, 0, 0, 1, 4)))


class Kinds(unittest.TestCase):
    def assert_kind(self, thing):
        with self.subTest(thing):
            self.assertIs(is_kind(thing), True)

    def assert_no_kind(self, thing):
        with self.subTest(repr(thing)[:80]):
            self.assertIs(is_kind(thing), False)

    def test_two_to_eight_variants(self):
        for many in range(2, 9):
            self.assert_kind(tuple(("v" + str(at), 2 * (at == 0)) for at in range(many)))
            self.assert_kind(tuple(("v" + str(at), 4 * (at < many - 1)) for at in range(many)))
        for kind in (BINARY, EVEN, WIDE):
            self.assert_kind(kind)

    def test_too_few_and_too_many_variants(self):
        self.assert_no_kind(())
        for parts in range(5):
            self.assert_no_kind((("a", parts),))
        self.assert_no_kind(WIDE + (("more", 0),))
        self.assert_no_kind(tuple(("v" + str(at), at % 5) for at in range(100)))

    def test_each_number_of_parts_from_two_to_four_is_enough(self):
        for parts in range(5):
            kind = (("a", 0), ("b", parts))
            self.assertIs(is_kind(kind), parts >= 2)
            self.assertIs(is_kind(kind[::-1]), parts >= 2)

    def test_no_variant_without_parts(self):
        self.assert_no_kind((("a", 1), ("b", 2)))
        self.assert_no_kind((("a", 2), ("b", 3), ("c", 4)))

    def test_no_variant_with_two_or_more_parts(self):
        self.assert_no_kind((("a", 0), ("b", 0)))
        self.assert_no_kind((("a", 0), ("b", 1), ("c", 1)))

    def test_parts_out_of_bounds(self):
        for parts in (-1, -2, 5, 6, 10 ** 49, -(10 ** 49)):
            self.assert_no_kind((("a", 0), ("b", 2), ("c", parts)))
            self.assert_no_kind((("c", parts), ("a", 0), ("b", 2)))

    def test_parts_that_are_no_integers(self):
        for parts in (True, False, None, "1", "", (), (1,), [1], {}, {1: 1}):
            self.assert_no_kind((("a", 0), ("b", 2), ("c", parts)))
        self.assert_no_kind((("a", False), ("b", 2)))
        self.assert_no_kind((("a", 0), ("b", 2), ("c", True)))

    def test_lists_in_place_of_tuples(self):
        self.assert_no_kind(list(BINARY))
        self.assert_no_kind([list(variant) for variant in BINARY])
        self.assert_no_kind((["leaf", 0], ("join", 2)))
        self.assert_no_kind((("leaf", 0), ["join", 2]))

    def test_tags_that_are_no_names(self):
        for tag in ("", "A", "Leaf", "1", "1a", "a b", "a_b", "a\n", "\n", "abcdefghi", None, 1, True, ("a",), ["a"], {}):
            self.assert_no_kind(((tag, 0), ("join", 2)))
            self.assert_no_kind((("leaf", 0), (tag, 2)))
            self.assert_no_kind((("leaf", 0), ("join", 2), (tag, 1)))

    def test_equal_tags(self):
        self.assert_no_kind((("a", 0), ("a", 2)))
        self.assert_no_kind((("a", 0), ("a", 0), ("b", 2)))
        for one, other in itertools.combinations(range(8), 2):
            variants = list(WIDE)
            variants[other] = (WIDE[one][0], WIDE[other][1])
            self.assert_no_kind(tuple(variants))

    def test_variants_of_another_length(self):
        for variant in ((), ("a",), (0,), ("a", 0, 0), ("a", 0, "b", 2), (0, "a")):
            self.assert_no_kind((variant, ("join", 2)))
            self.assert_no_kind((("leaf", 0), ("join", 2), variant))

    def test_things_of_other_forms(self):
        things = (None, True, False, 0, 2, -1, "", "leaf 0, join 2", "ab", {}, {"leaf": 0, "join": 2}, [], [()], ((), ()))
        for thing in things + ((None, None), ("ab", "cd"), ("leaf", 0), ("leaf", 0, "join", 2), (0, 2), b"ab"):
            self.assert_no_kind(thing)
        self.assert_no_kind((BINARY, BINARY))
        self.assert_no_kind((("leaf", 0), None))
        self.assert_no_kind((("leaf", 0), {"join": 2, "up": 1}))

    def test_things_that_are_deeply_nested_or_large(self):
        for deep in DEEP:
            for thing in (deep, (deep, deep), (("a", deep), ("b", 2)), ((deep, 0), ("b", 2)), BINARY + (deep,)):
                self.assert_no_kind(thing)
        for large in LARGE:
            for thing in (large, BINARY + (large,), (("a", 0), (large, 2)), (("a", 0), ("b", large))):
                self.assert_no_kind(thing)

    def test_the_order_of_the_variants_counts(self):
        turned = BINARY[::-1]
        self.assertIs(is_kind(turned), True)
        self.assertNotEqual(tags_of(turned), tags_of(BINARY))
        for order in itertools.permutations(EVEN, 5):
            self.assertEqual(tags_of(order), [variant[0] for variant in order])

    def test_nothing_is_modified(self):
        thing = [["leaf", 0], ("join", 2), {"a": [1]}]
        self.assertIs(is_kind(thing), False)
        self.assertIs(is_kind((thing, thing)), False)
        self.assertEqual(thing, [["leaf", 0], ("join", 2), {"a": [1]}])


class Tags(unittest.TestCase):
    def test_tags_in_order(self):
        self.assertEqual(tags_of(BINARY), ["leaf", "join"])
        self.assertEqual(tags_of(EVEN), ["a", "b", "u", "j", "k"])
        self.assertEqual(tags_of(WIDE), ["v" + str(at) for at in range(8)])

    def test_each_list_is_new(self):
        first, second = tags_of(BINARY), tags_of(BINARY)
        self.assertIs(type(first), list)
        self.assertIsNot(first, second)
        first.append("more")
        first[0] = "other"
        self.assertEqual(second, ["leaf", "join"])
        self.assertEqual(tags_of(BINARY), ["leaf", "join"])
        self.assertEqual(BINARY, (("leaf", 0), ("join", 2)))

    def test_parts(self):
        for kind in (BINARY, EVEN, WIDE):
            for tag, parts in kind:
                self.assertEqual(parts_of(kind, tag), parts)
                self.assertIs(type(parts_of(kind, tag)), int)

    def test_parts_of_what_is_no_tag(self):
        for word in ("", "x", "lea", "leaff", "Leaf", "leaf ", "leaf\n", "0", "2", "join 2", "a" * 10000, "~ \t\n"):
            with self.subTest(word[:20]):
                self.assertIsNone(parts_of(BINARY, word))


class Polynomials(unittest.TestCase):
    def test_the_factor_of_t_is_0_1_or_more(self):
        three = (("a", 0), ("u", 1), ("v", 1), ("w", 1), ("c", 2))
        cases = (
            (BINARY, (1, 0, 1), (1, -1, 1)),
            ((("a", 0), ("u", 1), ("c", 2)), (1, 1, 1), (1, 0, 1)),
            (EVEN, (2, 1, 2), (2, 0, 2)),
            ((("a", 0), ("u", 1), ("v", 1), ("c", 2)), (1, 2, 1), (1, 1, 1)),
            (three, (1, 3, 1), (1, 2, 1)),
            (WIDE, (2, 2, 1, 1, 2), (2, 1, 1, 1, 2)),
        )
        for kind, first, second in cases:
            with self.subTest(kind):
                self.assertEqual(polynomial(kind), first)
                self.assertEqual(difference(kind), second)

    def test_each_degree_and_factors_that_are_0(self):
        cases = (
            ((("a", 0), ("d", 3)), (1, 0, 0, 1), (1, -1, 0, 1)),
            ((("e", 4), ("a", 0)), (1, 0, 0, 0, 1), (1, -1, 0, 0, 1)),
            ((("a", 0), ("b", 2), ("e", 4)), (1, 0, 1, 0, 1), (1, -1, 1, 0, 1)),
            ((("d", 3), ("u", 1), ("b", 0), ("a", 0)), (2, 1, 0, 1), (2, 0, 0, 1)),
        )
        for kind, first, second in cases:
            with self.subTest(kind):
                self.assertEqual(polynomial(kind), first)
                self.assertEqual(difference(kind), second)

    def test_eight_variants_of_one_number_but_one(self):
        many = tuple(("v" + str(at), 2) for at in range(7)) + (("a", 0),)
        self.assertEqual((polynomial(many), difference(many)), ((1, 0, 7), (1, -1, 7)))
        many = tuple(("v" + str(at), 1) for at in range(6)) + (("a", 0), ("e", 4))
        self.assertEqual((polynomial(many), difference(many)), ((1, 6, 0, 0, 1), (1, 5, 0, 0, 1)))

    def test_all_numbers_of_parts_of_up_to_four_variants(self):
        for many in (2, 3, 4):
            for numbers in itertools.product(range(5), repeat=many):
                kind = tuple(("v" + str(at), parts) for at, parts in enumerate(numbers))
                self.assertEqual(is_kind(kind), 0 in numbers and any(parts > 1 for parts in numbers))
                if is_kind(kind):
                    self.check(kind, numbers)

    def check(self, kind, numbers):
        """Compare the values at two integers, and ask for the form of the tuples."""
        first, second = polynomial(kind), difference(kind)
        for at in (10, -3):
            value = sum(at ** parts for parts in numbers)
            self.assertEqual(sum(factor * at ** k for k, factor in enumerate(first)), value)
            self.assertEqual(sum(factor * at ** k for k, factor in enumerate(second)), value - at)
        for factors in (first, second):
            self.assertIs(type(factors), tuple)
            self.assertEqual(len(factors), max(numbers) + 1)
            self.assertNotEqual(factors[-1], 0)
            self.assertTrue(all(type(factor) is int for factor in factors))

    def test_the_order_of_the_variants_does_not_change_them(self):
        for order in itertools.permutations(EVEN):
            self.assertEqual((polynomial(order), difference(order)), ((2, 1, 2), (2, 0, 2)))


class TheInterface(unittest.TestCase):
    def test_the_example(self):
        kind = (("leaf", 0), ("join", 2))
        told = [polynomial(kind), difference(kind), tags_of(kind), parts_of(kind, "join"), parts_of(kind, "x")]
        self.assertEqual(told, [(1, 0, 1), (1, -1, 1), ["leaf", "join"], 2, None])
        self.assertIs(is_kind((("leaf", 0), ("up", 1))), False)

    def test_each_function_is_defined_in_its_file(self):
        for name in ("is_kind", "tags_of", "parts_of", "polynomial", "difference"):
            self.assertEqual(getattr(kinds, name).__module__, "layoutswap.kinds")


if __name__ == "__main__":
    unittest.main()
