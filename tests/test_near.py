import unittest

from plain import (
    HUGE, PRIMES, assert_polynomials, heard_of, plain_fits, plain_near, plain_nearest, seeded, slipped_row, small_codes,
    some_row, spanned_near, trial_rows,
)
from slipcurve.errors import TooFew
from slipcurve.near import all_near, nearest

LARGE = (97, 5, tuple(range(80, 64, -1)))


class AllNear(unittest.TestCase):
    def assert_near(self, code, row, t, expected):
        before = list(row)
        told = all_near(code, row, t)
        self.assertEqual(told, expected, (code, row, t))
        self.assertEqual(row, before)
        assert_polynomials(self, code, told)

    def test_by_hand(self):
        code = (7, 2, (0, 1, 3, 5))
        self.assert_near(code, [3, 5, 2, 6], 4, [(3, 2)])
        self.assert_near(code, [3, 5, 2, 0], 3, [(3, 2)])
        self.assert_near(code, [3, None, 2, None], 2, [(3, 2)])
        self.assert_near((5, 1, (0, 1, 2)), [4, None, 2], 1, [(2,), (4,)])

    def test_against_all_polynomials(self):
        for code in small_codes():
            p, k, places = code
            for row in trial_rows(code, 9):
                for t in range(k, len(places) + 3):
                    self.assert_near(code, row, t, plain_near(code, row, t))

    def test_far_above_the_places_none_is_told(self):
        for code in small_codes() + [LARGE]:
            row = [0] * len(code[2])
            for t in (len(row) + 1, 17, 18, 97, 300, HUGE):
                if t > len(row):
                    self.assert_near(code, row, t, [])

    def test_above_the_heard_places_none_is_told(self):
        self.assert_near((7, 2, (0, 1, 3, 5)), [0, 0, None, 0], 4, [])
        self.assert_near((7, 2, (0, 1, 3, 5)), [None, 0, None, None], 2, [])

    def test_nothing_heard(self):
        for code in small_codes() + [LARGE]:
            row = [None] * len(code[2])
            self.assert_near(code, row, code[1], [])

    def test_below_k_is_refused(self):
        for code in small_codes() + [LARGE]:
            for row in ([0] * len(code[2]), [None] * len(code[2])):
                for t in [code[1] - 1, 0, -1, -300, -HUGE]:
                    with self.assertRaises(TooFew):
                        all_near(code, row, t)
                self.assertEqual(row, [row[0]] * len(row))

    def test_a_new_list_each_time(self):
        code, row = (7, 2, (0, 1, 3, 5)), [3, 5, 2, 6]
        for t in (2, 5):
            first, second = all_near(code, row, t), all_near(code, row, t)
            self.assertIsNot(first, second)
            self.assertEqual(first, second)
            first.append("mine")
            self.assertEqual(all_near(code, row, t), second)

    def test_large_codes(self):
        source = seeded(10)
        for p in (17, 53, 97):
            for k in range(1, 6):
                code = (p, k, tuple(source.sample(range(p), 16)))
                row = some_row(source, code, 2)
                for t in range(k, k + 4):
                    self.assert_near(code, row, t, spanned_near(code, row, t))

    def test_the_largest_code_with_many_near(self):
        row = some_row(seeded(11), LARGE, 0)
        told = all_near(LARGE, row, 5)
        self.assertEqual(told, spanned_near(LARGE, row, 5))
        self.assertGreater(len(told), 3000)

    def test_slips_of_each_prime_are_found_through(self):
        source = seeded(12)
        for p in PRIMES:
            many = min(p, 16)
            k = min(5, many - 2)
            code = (p, k, tuple(source.sample(range(p), many)))
            polynomial = tuple(source.randrange(p) for i in range(k))
            for slips in range(0, many - k + 1):
                row = slipped_row(source, code, polynomial, slips)
                self.assertIn(polynomial, all_near(code, row, many - slips))
                for other in all_near(code, row, many - slips):
                    self.assertGreaterEqual(len(plain_fits(code, row, other)), many - slips)


class Nearest(unittest.TestCase):
    def assert_nearest(self, code, row, expected):
        before = list(row)
        told = nearest(code, row)
        self.assertEqual(told, expected, (code, row))
        self.assertEqual(row, before)
        self.assertIs(type(told), tuple)
        self.assertIs(type(told[0]), int)
        self.assertIs(type(told[1]), list)
        for polynomial in told[1]:
            self.assertIs(type(polynomial), tuple)

    def test_by_hand(self):
        code = (7, 2, (0, 1, 3, 5))
        self.assert_nearest(code, [3, 5, 2, 6], (4, [(3, 2)]))
        self.assert_nearest(code, [3, 5, 2, 0], (3, [(3, 2)]))
        self.assert_nearest(code, [None, 5, None, 6], (2, [(3, 2)]))
        self.assert_nearest((5, 1, (0, 1, 2, 3)), [4, 2, 2, 4], (2, [(2,), (4,)]))

    def test_against_all_polynomials(self):
        for code in small_codes():
            for row in trial_rows(code, 13):
                if len(heard_of(code, row)) >= code[1]:
                    self.assert_nearest(code, row, plain_nearest(code, row))
                else:
                    with self.assertRaises(TooFew):
                        nearest(code, row)

    def test_less_than_k_heard_is_refused_and_k_heard_is_told(self):
        source = seeded(14)
        for code in small_codes() + [LARGE]:
            p, k, places = code
            for heard in range(k + 1):
                row = [None] * len(places)
                for at in source.sample(range(len(places)), heard):
                    row[at] = source.randrange(p)
                if heard < k:
                    before = list(row)
                    with self.assertRaises(TooFew):
                        nearest(code, row)
                    self.assertEqual(row, before)
                else:
                    self.assert_nearest(code, row, (k, spanned_near(code, row, k)))
                    self.assertEqual(len(nearest(code, row)[1]), 1)

    def test_a_new_list_each_time(self):
        code, row = (7, 2, (0, 1, 3, 5)), [3, 5, 2, 6]
        first, second = nearest(code, row), nearest(code, row)
        self.assertIsNot(first[1], second[1])
        first[1].append("mine")
        self.assertEqual(second, (4, [(3, 2)]))
        self.assertEqual(nearest(code, row), (4, [(3, 2)]))

    def test_large_codes(self):
        source = seeded(15)
        for p in (17, 97):
            for k in range(1, 6):
                code = (p, k, tuple(source.sample(range(p), 16)))
                row = some_row(source, code, 1)
                near = spanned_near(code, row, k)
                most = max(len(plain_fits(code, row, f)) for f in near)
                self.assert_nearest(code, row, (most, [f for f in near if len(plain_fits(code, row, f)) == most]))

    def test_few_slips_of_a_large_code(self):
        source = seeded(16)
        polynomial = (96, 0, 5, 12, 1)
        for slips in range(0, 6):
            row = slipped_row(source, LARGE, polynomial, slips)
            self.assert_nearest(LARGE, row, (16 - slips, [polynomial]))


if __name__ == "__main__":
    unittest.main()
