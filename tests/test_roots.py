import itertools
import unittest

from plain import (
    PRIMES, curve_of_roots, curves_multiplied, plain_roots, put_in, seeded, slipped_row, some_curve, some_polynomial,
)
from slipcurve.curves import curve_for
from slipcurve.roots import roots_of


def cut(polynomial, k):
    """A polynomial as one of k numbers, or None where it has greater powers."""
    if any(polynomial[k:]):
        return None
    return (tuple(polynomial) + (0,) * k)[:k]


def expected_roots(polynomials, k):
    return sorted({cut(f, k) for f in polynomials} - {None})


def squareless(p):
    """y^2 less a number that is no square: a curve without roots."""
    squares = {y * y % p for y in range(p)}
    least = min(number for number in range(p) if number not in squares)
    return ((p - least,), (0,), (1,))


class Roots(unittest.TestCase):
    def assert_roots(self, p, k, curve, expected):
        told = roots_of(p, k, curve)
        self.assertEqual(told, expected, (p, k, curve))
        self.assertIs(type(told), list)
        for f in told:
            self.assertIs(type(f), tuple)
            self.assertEqual(len(f), k)
            for number in f:
                self.assertIs(type(number), int)

    def test_by_hand(self):
        # (y - 1) (y - x) with p 7.
        curve = ((0, 1), (6, 6), (1,))
        self.assert_roots(7, 2, curve, [(0, 1), (1, 0)])
        self.assert_roots(7, 1, curve, [(1,)])
        self.assert_roots(7, 3, curve, [(0, 1, 0), (1, 0, 0)])
        # y^2 - x^2 and y^2 - x^3.
        self.assert_roots(7, 2, ((0, 0, 6), (0,), (1,)), [(0, 1), (0, 6)])
        self.assert_roots(7, 3, ((0, 0, 0, 6), (0,), (1,)), [])
        # x y - x^2, and y by itself.
        self.assert_roots(5, 2, ((0, 0, 4), (0, 1)), [(0, 1)])
        self.assert_roots(5, 2, ((0,), (1,)), [(0, 0)])

    def test_drawn_curves_against_all_polynomials(self):
        source = seeded(60)
        for p, k in [(5, 1), (7, 1), (97, 1), (5, 2), (7, 2), (11, 2), (5, 3), (5, 4)]:
            for trial in range(12):
                curve = some_curve(source, p, 4, 4)
                self.assert_roots(p, k, curve, plain_roots(p, k, curve))

    def test_every_small_curve_against_all_polynomials(self):
        for numbers in itertools.product((0, 1, 4), repeat=6):
            if any(numbers):
                curve = (numbers[:3], numbers[3:5], numbers[5:])
                for k in (1, 2):
                    self.assert_roots(5, k, curve, plain_roots(5, k, curve))

    def test_products_against_all_polynomials(self):
        source = seeded(61)
        for p, k in [(5, 1), (5, 2), (7, 2), (11, 2), (5, 3), (5, 4)]:
            for trial in range(8):
                roots = [some_polynomial(source, p, k) for factor in range(source.randint(1, 4))]
                curve = curves_multiplied(p, curve_of_roots(p, roots), some_curve(source, p, 2, 3))
                expected = plain_roots(p, k, curve)
                self.assertTrue(set(roots) <= set(expected))
                self.assert_roots(p, k, curve, expected)

    def test_products_of_each_prime_and_k(self):
        source = seeded(62)
        for p in PRIMES:
            for k in range(1, 6):
                roots = [some_polynomial(source, p, source.randint(1, 5)) for factor in range(source.randint(1, 5))]
                curve = curves_multiplied(p, curve_of_roots(p, roots), squareless(p))
                self.assert_roots(p, k, curve, expected_roots(roots, k))

    def test_the_same_root_more_than_once(self):
        source = seeded(63)
        for p, k in [(5, 1), (5, 3), (7, 5), (97, 4)]:
            for often in (2, 3, 6):
                f, g = some_polynomial(source, p, k), some_polynomial(source, p, k)
                self.assert_roots(p, k, curve_of_roots(p, [f] * often), [f])
                self.assert_roots(p, k, curve_of_roots(p, [f, g] * often), sorted({f, g}))

    def test_roots_that_begin_alike(self):
        for p in (5, 31, 97):
            roots = [(3, 1, 4, 1, last) for last in range(5)] + [(3, 1, 4, 2, 0), (3, 2, 0, 0, 0), (0,) * 5]
            self.assert_roots(p, 5, curve_of_roots(p, roots), sorted(roots))
            self.assert_roots(p, 4, curve_of_roots(p, roots), [(0, 0, 0, 0), (3, 1, 4, 1), (3, 1, 4, 2), (3, 2, 0, 0)])

    def test_curves_with_none(self):
        for p in PRIMES:
            for k in range(1, 6):
                self.assert_roots(p, k, squareless(p), [])
                # y^2 - x, and x y - 1, whose root is no polynomial.
                self.assert_roots(p, k, ((0, p - 1), (0,), (1,)), [])
                self.assert_roots(p, k, ((p - 1,), (0, 1)), [])

    def test_curves_without_y(self):
        for p in (5, 7, 97):
            for k in range(1, 6):
                self.assert_roots(p, k, ((1,),), [])
                self.assert_roots(p, k, ((0, 0, 3),), [])
                self.assert_roots(p, k, ((2, 1), (0,), (0, 0)), [])
                # x^p - x is nought at every number, but it is not nought.
                if p <= 7:
                    self.assert_roots(p, k, ((0, p - 1) + (0,) * (p - 2) + (1,),), [])

    def test_nought_at_every_number_is_not_enough(self):
        # f^5 - f is nought only where f is a lone number.
        curve = ((0,), (4,), (0,), (0,), (0,), (1,))
        for k in range(1, 6):
            self.assert_roots(5, k, curve, [(number,) + (0,) * (k - 1) for number in range(5)])
        # y - x^5: x itself has the same values with p 5.
        self.assert_roots(5, 2, ((0, 0, 0, 0, 0, 4), (1,)), [])
        # y^5 - x^5 is (y - x)^5.
        self.assert_roots(5, 2, ((0, 0, 0, 0, 0, 4), (0,), (0,), (0,), (0,), (1,)), [(0, 1)])

    def test_roots_whose_greatest_powers_are_0(self):
        for p in (5, 97):
            roots = [(0,), (2,), (0, 3), (1, 4), (1, 0, 1), (0, 0, 0, 2), (4, 0, 0, 0, 1), (1, 1, 1, 1, 1, 1)]
            curve = curve_of_roots(p, roots)
            for k in range(1, 6):
                self.assert_roots(p, k, curve, expected_roots(roots, k))

    def test_a_common_factor_changes_nothing(self):
        source = seeded(64)
        for p, k in [(5, 1), (5, 3), (7, 2), (13, 5), (97, 4)]:
            factors = [((0, 1),), ((0, 0, 0, 0, 1),), ((p - 1, 1),), ((0, p - 1, 0, 1),), ((0, 2, 3, 1),)]
            if p <= 13:
                factors.append(((0, p - 1) + (0,) * (p - 2) + (1,),))
            for trial in range(4):
                curve = curve_of_roots(p, [some_polynomial(source, p, k) for root in range(3)])
                expected = roots_of(p, k, curve)
                for factor in factors:
                    self.assert_roots(p, k, curves_multiplied(p, curve, factor), expected)
                self.assert_roots(p, k, curves_multiplied(p, curve, ((0, 0, 1), (0, 1))), sorted(
                    set(expected) | set(roots_of(p, k, ((0, 0, 1), (0, 1))))
                ))

    def test_noughts_at_the_ends_change_nothing(self):
        source = seeded(65)
        for trial in range(30):
            curve = curve_of_roots(11, [some_polynomial(source, 11, 3) for root in range(3)])
            more = tuple(line + (0,) * source.randrange(5) for line in curve) + ((0,), (0, 0, 0))
            self.assert_roots(11, 3, more, roots_of(11, 3, curve))

    def test_large_curves(self):
        source = seeded(66)
        for p, many, wide in [(97, 29, 3), (97, 14, 5), (31, 29, 3), (5, 29, 3), (97, 29, 1)]:
            roots = [some_polynomial(source, p, wide) for root in range(many)]
            curve = curve_of_roots(p, roots)
            self.assertEqual(len(curve), many + 1)
            self.assertLessEqual(max(len(line) for line in curve), 60)
            for k in (1, 3, 5):
                self.assert_roots(p, k, curve, expected_roots(roots, k))

    def test_the_largest_curve(self):
        source = seeded(67)
        for p in (5, 97):
            drawn = tuple(some_polynomial(source, p, 60) for line in range(30))
            for k in range(1, 6):
                for f in roots_of(p, k, drawn):
                    self.assertFalse(any(put_in(p, drawn, f)))
            # A factor of 28 lines of 56 numbers beside two roots: these are told at least.
            roots = [some_polynomial(source, p, 3) for root in range(2)]
            other = tuple(some_polynomial(source, p, 56) for line in range(28))
            curve = curves_multiplied(p, curve_of_roots(p, roots), other)
            self.assertEqual([len(curve), max(len(line) for line in curve)], [30, 60])
            told = roots_of(p, 3, curve)
            self.assertTrue(set(roots) <= set(told))
            self.assertTrue(all(not any(put_in(p, curve, f)) for f in told))
            self.assertEqual(told, sorted(set(told)))

    def test_roots_of_a_curve_for_a_row(self):
        source = seeded(68)
        for k in (2, 3, 4, 5):
            code = (97, k, tuple(source.sample(range(97), 16)))
            f = some_polynomial(source, 97, k)
            row = slipped_row(source, code, f, 4)
            for m in (1, 2, 3):
                size, curve = curve_for(code, row, m)
                if m * 12 > size:
                    self.assertIn(f, roots_of(97, k, curve))

    def test_a_new_list_each_time(self):
        for curve in [((0, 1), (6, 6), (1,)), ((1,),)]:
            first, second = roots_of(7, 2, curve), roots_of(7, 2, curve)
            self.assertIsNot(first, second)
            self.assertEqual(first, second)
            first.append("mine")
            self.assertEqual(roots_of(7, 2, curve), second)


if __name__ == "__main__":
    unittest.main()
