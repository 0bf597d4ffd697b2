import itertools
import unittest

from plain import (
    PRIMES, asked_of, assert_curve, curve_of_roots, curves_multiplied, heard_of, none_of_size, plain_moved, plain_size,
    plain_weight, rank, seeded, slipped_row, small_codes, some_curve, some_polynomial, some_row, terms_up_to,
    trial_rows, weighted,
)
from slipcurve.curves import curve_for, moved, size_of, weight_at
from slipcurve.errors import NoCurve, SlipError

LARGEST = tuple(tuple((i * j + i + 1) % 97 for i in range(60)) for j in range(30))


def value_of(curve, x, y):
    """The whole number that a curve comes to with any whole numbers in the place of x and y."""
    return sum(number * x ** i * y ** j for j, line in enumerate(curve) for i, number in enumerate(line))


def widened(curve):
    wide = max(len(line) for line in curve)
    return tuple(line + (0,) * (wide - len(line)) for line in curve)


class Sizes(unittest.TestCase):
    def test_by_hand(self):
        curve = ((1, 2, 0), (0,), (0, 3, 0, 0))
        self.assertEqual([size_of(k, curve) for k in (2, 3, 4, 5)], [3, 5, 7, 9])
        curve = ((0, 0, 0, 0, 0, 0, 4), (1,), (0, 0, 0))
        self.assertEqual([size_of(k, curve) for k in (2, 3, 4, 5)], [6, 6, 6, 6])
        self.assertEqual([size_of(k, ((0, 0), (0, 0), (0,), (1,))) for k in (2, 3, 4, 5)], [3, 6, 9, 12])

    def test_a_lone_number(self):
        for k in (2, 3, 4, 5):
            self.assertEqual(size_of(k, ((5,),)), 0)
            self.assertEqual(size_of(k, ((5, 0, 0), (0,), (0, 0))), 0)

    def test_noughts_do_not_count(self):
        source = seeded(40)
        for p in (5, 97):
            for trial in range(100):
                curve = some_curve(source, p, 6, 8)
                more = tuple(line + (0,) * source.randrange(4) for line in curve) + ((0, 0, 0),) * source.randrange(3)
                for k in (2, 3, 4, 5):
                    size = size_of(k, curve)
                    self.assertIs(type(size), int)
                    self.assertEqual(size, plain_size(k, curve))
                    self.assertEqual(size_of(k, more), size)

    def test_the_largest_curve(self):
        self.assertEqual(size_of(5, ((0,) * 60,) * 29 + ((0,) * 59 + (1,),)), 59 + 4 * 29)
        self.assertEqual(size_of(2, LARGEST), plain_size(2, LARGEST))


class Moved(unittest.TestCase):
    def assert_moved(self, p, curve, point):
        told = moved(p, curve, point)
        self.assertEqual(told, plain_moved(p, curve, point), (p, curve, point))
        self.assertIs(type(told), tuple)
        for line in told:
            self.assertIs(type(line), tuple)
            self.assertEqual(len(line), max(len(one) for one in curve))
            for number in line:
                self.assertIs(type(number), int)
        back = moved(p, told, ((p - point[0]) % p, (p - point[1]) % p))
        self.assertEqual(back, widened(curve))

    def test_by_hand(self):
        # y - x^2 at (1, 3) is y + 3 - (x + 1)^2.
        self.assertEqual(moved(7, ((0, 0, 6), (1,)), (1, 3)), ((2, 5, 6), (1, 0, 0)))
        # x y is (x + 2) (y + 4).
        self.assertEqual(moved(5, ((0,), (0, 1)), (2, 4)), ((3, 4), (2, 1)))
        # With p 5 the fifth power of x + 1 is x^5 + 1.
        self.assertEqual(moved(5, ((0, 0, 0, 0, 0, 1),), (1, 0)), ((1, 0, 0, 0, 0, 1),))
        self.assertEqual(moved(5, ((0,), (0,), (0,), (0,), (0,), (1,)), (0, 3)), ((3,), (0,), (0,), (0,), (0,), (1,)))

    def test_drawn_curves(self):
        source = seeded(41)
        for p in PRIMES:
            for trial in range(12):
                curve = some_curve(source, p, 6, 9)
                self.assert_moved(p, curve, (source.randrange(p), source.randrange(p)))
                self.assert_moved(p, curve, (0, source.randrange(p)))
                self.assert_moved(p, curve, (source.randrange(p), 0))
                self.assert_moved(p, curve, (p - 1, p - 1))

    def test_values_as_polynomials_have_them(self):
        source = seeded(42)
        for p in (5, 13, 97):
            for trial in range(20):
                curve = some_curve(source, p, 7, 7)
                a, b = source.randrange(p), source.randrange(p)
                told = moved(p, curve, (a, b))
                for x, y in itertools.product(range(0, p, 3), range(0, p, 2)):
                    self.assertEqual(value_of(told, x, y) % p, value_of(curve, x + a, y + b) % p)

    def test_by_nothing_it_is_filled_up_only(self):
        source = seeded(43)
        for trial in range(50):
            curve = some_curve(source, 11, 8, 8)
            self.assertEqual(moved(11, curve, (0, 0)), widened(curve))

    def test_one_line_and_one_number(self):
        self.assertEqual(moved(7, ((3,),), (5, 6)), ((3,),))
        self.assertEqual(moved(7, ((3,), (1,)), (5, 6)), ((2,), (1,)))
        self.assertEqual(moved(7, ((3, 1),), (5, 6)), ((1, 1),))

    def test_the_largest_curve(self):
        told = moved(97, LARGEST, (96, 50))
        self.assertEqual([len(line) for line in told], [60] * 30)
        self.assertEqual(moved(97, told, (1, 47)), LARGEST)
        for x, y in [(0, 0), (3, 96), (40, 41)]:
            self.assertEqual(value_of(told, x, y) % 97, value_of(LARGEST, x + 96, y + 50) % 97)


class Weights(unittest.TestCase):
    def test_by_hand(self):
        parabola = ((0, 0, 6), (1,))
        self.assertEqual(weight_at(7, parabola, (3, 2)), 1)
        self.assertEqual(weight_at(7, parabola, (3, 3)), 0)
        self.assertEqual(weight_at(7, curves_multiplied(7, parabola, parabola), (3, 2)), 2)
        self.assertEqual(weight_at(7, ((0,), (0, 1)), (0, 0)), 2)
        self.assertEqual(weight_at(7, ((0,), (0, 1)), (0, 4)), 1)
        self.assertEqual(weight_at(7, ((5,),), (0, 0)), 0)
        # x^5 + 4 is (x + 4)^5 with p 5: five times nought at 1, and its plain slopes tell nothing of it.
        self.assertEqual(weight_at(5, ((4, 0, 0, 0, 0, 1),), (1, 3)), 5)

    def test_against_the_moved_curve(self):
        source = seeded(44)
        for p in (5, 7, 31, 97):
            for trial in range(40):
                curve = some_curve(source, p, 5, 6)
                for point in [(0, 0), (source.randrange(p), source.randrange(p))]:
                    self.assertEqual(weight_at(p, curve, point), plain_weight(p, curve, point))

    def test_every_point_of_small_curves(self):
        source = seeded(45)
        for trial in range(30):
            curve = some_curve(source, 5, 5, 5)
            for point in itertools.product(range(5), repeat=2):
                weight = weight_at(5, curve, point)
                self.assertIs(type(weight), int)
                self.assertEqual(weight, plain_weight(5, curve, point))
                self.assertEqual(weight > 0, value_of(curve, *point) % 5 == 0)

    def test_as_many_factors_as_pass_the_point(self):
        source = seeded(46)
        for p in (5, 17, 97):
            for passing in range(6):
                a, b = source.randrange(p), source.randrange(p)
                lines = [(slope, (b - slope * a) % p) for slope in source.choices(range(p), k=passing)]
                off = [(slope, (b + 1 - slope * a) % p) for slope in source.choices(range(p), k=2)]
                curve = curve_of_roots(p, [(rest, slope) for slope, rest in lines + off])
                self.assertEqual(weight_at(p, curve, (a, b)), passing)

    def test_the_largest_curve(self):
        self.assertEqual(weight_at(97, ((0,) * 60,) * 29 + ((0,) * 59 + (1,),), (0, 0)), 88)
        self.assertEqual(weight_at(97, ((0,) * 60,) * 29 + ((0,) * 59 + (1,),), (0, 1)), 59)
        self.assertEqual(weight_at(97, LARGEST, (4, 9)), 0 if value_of(LARGEST, 4, 9) % 97 else 1)


class CurvesForRows(unittest.TestCase):
    def told(self, code, row, m):
        """The told pair, after it is found to be a curve for the row."""
        p, k, places = code
        before = list(row)
        pair = curve_for(code, row, m)
        self.assertEqual(row, before)
        self.assertIs(type(pair), tuple)
        size, curve = pair
        self.assertIs(type(size), int)
        assert_curve(self, p, curve)
        self.assertEqual(size, plain_size(k, curve))
        for point in heard_of(code, row):
            self.assertGreaterEqual(plain_weight(p, curve, point), m, (code, row, m))
        return size, curve

    def assert_least(self, code, row, m):
        size = self.told(code, row, m)[0]
        points = weighted(heard_of(code, row), m)
        self.assertTrue(none_of_size(code[0], code[1], points, size - 1), (code, row, m))

    def test_by_hand(self):
        code = (7, 2, (0, 1, 3, 5))
        # All four lie on 3 + 2 x, so the line does, and it does it as often as it is taken.
        for m in (1, 2, 3, 4):
            self.assertEqual(self.told(code, [3, 5, 2, 6], m)[0], m)
        # Three of a line and one beside it: no line, but two.
        self.assertEqual(self.told(code, [3, 5, 2, 0], 1)[0], 2)

    def test_small_codes(self):
        for code in small_codes():
            p, k, places = code
            if k > 1 and p < 17:
                for row in trial_rows(code, 47):
                    for m in (1, 2, 3, 4):
                        self.assert_least(code, row, m)

    def test_no_smaller_curve_every_one_tried(self):
        source = seeded(48)
        for k, places, m in [(2, (0, 3), 1), (2, (0, 3, 1), 1), (2, (2, 4), 2), (3, (1, 2, 4), 1), (4, (0, 1, 2, 3), 1)]:
            code = (5, k, places)
            for trial in range(8):
                row = some_row(source, code, 2)
                size = self.told(code, row, m)[0]
                self.assertFalse(self.any_of_size(code, row, m, size - 1), (code, row, m))
                self.assertTrue(self.any_of_size(code, row, m, size), (code, row, m))

    def any_of_size(self, code, row, m, size):
        p, k, places = code
        terms = terms_up_to(k, size)
        points = heard_of(code, row)
        if len(terms) > 6:
            lines = asked_of(p, terms, weighted(points, m))
            return rank(p, lines) < len(terms)
        for numbers in itertools.product(range(p), repeat=len(terms)):
            if any(numbers):
                curve = [[0] * (size + 1) for line in range(size + 1)]
                for (i, j), number in zip(terms, numbers):
                    curve[j][i] = number
                if all(plain_weight(p, curve, point) >= m for point in points):
                    return True
        return False

    def test_nothing_heard(self):
        for code in small_codes():
            if code[1] > 1:
                for m in (1, 2, 3, 4):
                    self.assertEqual(self.told(code, [None] * len(code[2]), m)[0], 0)

    def test_one_place_heard(self):
        for k in (2, 3, 4, 5):
            code = (11, k, (9, 2, 4, 0, 1))
            for m in (1, 2, 3, 4):
                self.assertEqual(self.told(code, [None, None, 7, None, None], m)[0], m)

    def test_large_codes(self):
        source = seeded(49)
        for k in (2, 3, 4, 5):
            for p in (17, 97):
                code = (p, k, tuple(source.sample(range(p), 16)))
                for m in (1, 2, 3):
                    self.assert_least(code, some_row(source, code, 2), m)
                    self.assert_least(code, slipped_row(source, code, some_polynomial(source, p, k), 5), m)

    def test_the_largest_codes_with_the_greatest_weight(self):
        source = seeded(50)
        for k in (2, 5):
            code = (97, k, tuple(source.sample(range(97), 16)))
            self.assert_least(code, some_row(source, code, 0), 4)

    def test_rows_of_one_polynomial(self):
        source = seeded(51)
        for k in (2, 3, 4, 5):
            code = (53, k, tuple(source.sample(range(53), 16)))
            row = slipped_row(source, code, some_polynomial(source, 53, k), 0)
            for m in (1, 2, 3):
                self.assertEqual(self.told(code, row, m)[0], (k - 1) * m)

    def test_k_1_is_refused(self):
        for code in [(5, 1, (3,)), (7, 1, (6, 2, 4)), (97, 1, tuple(range(16)))]:
            for row in ([0] * len(code[2]), [None] * len(code[2])):
                for m in (1, 2, 3, 4):
                    with self.assertRaises(NoCurve):
                        curve_for(code, row, m)
                self.assertEqual(row, [row[0]] * len(row))
        self.assertTrue(issubclass(NoCurve, SlipError))

    def test_the_same_answer_each_time(self):
        code, row = (7, 2, (0, 1, 3, 5)), [3, 5, 2, 0]
        for m in (1, 2, 3, 4):
            self.assertEqual(curve_for(code, row, m), curve_for(code, row, m))


if __name__ == "__main__":
    unittest.main()
