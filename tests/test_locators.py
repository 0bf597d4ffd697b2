import itertools
import unittest

from plain import (
    PRIMES, assert_numbers, free_of_locators, heard_of, multiplied, plain_fits, plain_near, plain_value, seeded,
    slipped_row, small_codes, some_polynomial, some_row, spanned_near, trial_rows, tried_least,
)
from slipcurve.locators import half, locator_of

LARGE = (97, 5, tuple(range(80, 64, -1)))


def middling(code, row):
    """How many places the half must fit at least."""
    return (len(heard_of(code, row)) + code[1] + 1) // 2


class Told(unittest.TestCase):
    def told(self, code, row):
        """The told locator, after it is found to be one."""
        p, k, places = code
        before = list(row)
        locator = locator_of(code, row)
        self.assertEqual(row, before)
        self.assertIs(type(locator), tuple)
        e, left, right = locator
        self.assertIs(type(e), int)
        self.assertGreaterEqual(e, 0)
        assert_numbers(self, p, left, e + 1)
        assert_numbers(self, p, right, k + e)
        self.assertTrue(any(left), (code, row))
        for x, y in heard_of(code, row):
            self.assertEqual(plain_value(p, right, x), plain_value(p, left, x) * y % p, (code, row))
        self.assertEqual(locator_of(code, row), locator)
        return locator

    def assert_half(self, code, row, expected):
        before = list(row)
        told = half(code, row)
        self.assertEqual(told, expected, (code, row))
        self.assertEqual(row, before)
        if told is not None:
            self.assertIs(type(told), tuple)
            self.assertEqual(len(told), code[1])

    def assert_half_by_locator(self, code, row, f, slips):
        self.assert_half(code, row, f)
        e, left, right = self.told(code, row)
        self.assertLessEqual(e, slips)
        self.assertEqual(list(right), multiplied(code[0], left, f))


class Locators(Told):
    def test_by_hand(self):
        code = (7, 2, (0, 1, 3, 5))
        # All four lie on 3 + 2 x; with the last one wrong left must be 0 at the place 5.
        e, left, right = self.told(code, [3, 5, 2, 6])
        self.assertEqual((e, right), (0, (3 * left[0] % 7, 2 * left[0] % 7)))
        e, left, right = self.told(code, [3, 5, 2, 0])
        self.assertEqual(e, 1)
        self.assertEqual(plain_value(7, left, 5), 0)

    def test_the_least_e_against_all_lefts(self):
        for code in small_codes():
            if code[0] <= 7:
                for row in trial_rows(code, 30):
                    self.assertEqual(self.told(code, row)[0], tried_least(code, [row]), (code, row))

    def test_every_row_of_a_small_code(self):
        for code in [(5, 1, (0, 2, 3)), (5, 2, (4, 1, 2, 0)), (5, 3, (1, 2, 3))]:
            for row in itertools.product([None, 0, 1, 2, 4], repeat=len(code[2])):
                self.assertEqual(self.told(code, list(row))[0], tried_least(code, [row]), (code, row))

    def test_the_least_e_of_large_codes(self):
        source = seeded(31)
        for p in (17, 31, 97):
            for k in range(1, 6):
                code = (p, k, tuple(source.sample(range(p), 16)))
                rows = [some_row(source, code, silence) for silence in (0, 1, 3, 6)]
                rows += [slipped_row(source, code, some_polynomial(source, p, k), slips) for slips in range(17)]
                for row in rows:
                    e = self.told(code, row)[0]
                    heard = len(heard_of(code, row))
                    self.assertLessEqual(e, max(0, (heard - k + 1) // 2))
                    self.assertTrue(e == 0 or free_of_locators(code, [row], e - 1), (code, row))

    def test_nothing_or_little_heard(self):
        source = seeded(32)
        for code in small_codes() + [LARGE]:
            p, k, places = code
            for heard in range(k + 1):
                for entry in (0, 1, p - 1, None):
                    row = [None] * len(places)
                    for at in source.sample(range(len(places)), heard):
                        row[at] = source.randrange(p) if entry is None else entry
                    self.assertEqual(self.told(code, row)[0], 0)

    def test_rows_of_one_polynomial(self):
        source = seeded(33)
        for code in small_codes() + [LARGE]:
            p, k, places = code
            for f in [(0,) * k, (p - 1,) * k, (0,) * (k - 1) + (1,), some_polynomial(source, p, k)]:
                row = slipped_row(source, code, f, 0)
                e, left, right = self.told(code, row)
                self.assertEqual(e, 0)
                self.assertEqual(list(right), multiplied(p, left, f))


class Half(Told):
    def test_by_hand(self):
        code = (7, 2, (0, 1, 3, 5))
        self.assert_half(code, [3, 5, 2, 6], (3, 2))
        self.assert_half(code, [3, 5, 2, 0], (3, 2))
        self.assert_half(code, [3, 5, 0, 0], None)
        self.assert_half(code, [3, 5, 2, None], (3, 2))
        self.assert_half(code, [3, 5, 0, None], None)
        self.assert_half(code, [3, None, 2, None], (3, 2))
        self.assert_half(code, [3, None, None, None], None)
        self.assert_half(code, [None] * 4, None)
        self.assert_half((5, 1, (0, 1, 2)), [4, None, None], (4,))
        self.assert_half((5, 1, (0, 1, 2)), [4, None, 4], (4,))
        self.assert_half((5, 1, (0, 1, 2)), [4, 3, 4], (4,))
        self.assert_half((5, 1, (0, 1, 2)), [4, 3, None], None)

    def test_against_all_polynomials(self):
        for code in small_codes():
            for row in trial_rows(code, 34):
                near = plain_near(code, row, middling(code, row))
                self.assertLessEqual(len(near), 1)
                self.assert_half(code, row, near[0] if near else None)

    def test_every_row_of_a_small_code(self):
        for code in [(5, 1, (0, 2, 3, 1)), (5, 2, (4, 1, 2, 0)), (5, 3, (1, 2, 3, 4))]:
            for row in itertools.product([None, 0, 1, 4], repeat=len(code[2])):
                near = plain_near(code, row, middling(code, row))
                self.assert_half(code, list(row), near[0] if near else None)

    def test_just_so_many_slips_one_fewer_and_one_more(self):
        source = seeded(35)
        for p in PRIMES:
            many = min(p, 16)
            for k in range(1, min(5, many) + 1):
                code = (p, k, tuple(source.sample(range(p), many)))
                self.slips_about_half(source, code, (many - k) // 2)

    def slips_about_half(self, source, code, most):
        p, k, places = code
        for slips in [slips for slips in (most - 1, most, most + 1) if 0 <= slips <= len(places)]:
            f = some_polynomial(source, p, k)
            row = slipped_row(source, code, f, slips)
            if slips <= most:
                self.assert_half_by_locator(code, row, f, slips)
            else:
                self.assertNotEqual(half(code, row), f)
                near = spanned_near(code, row, middling(code, row))
                self.assert_half(code, row, near[0] if near else None)

    def test_slips_and_silence(self):
        source = seeded(36)
        for p in (17, 53, 97):
            for k in range(1, 6):
                for silent in range(0, 17 - k):
                    code = (p, k, tuple(source.sample(range(p), 16)))
                    f = some_polynomial(source, p, k)
                    self.silence_with_slips(source, code, f, silent)

    def silence_with_slips(self, source, code, f, silent):
        p, k, places = code
        most = (16 - silent - k) // 2
        for slips in sorted({0, most, most + 1}):
            row = slipped_row(source, code, f, slips)
            kept = plain_fits(code, row, f)
            for at in source.sample(kept, min(silent, len(kept))):
                row[at] = None
            near = 2 * (len(heard_of(code, row)) - slips) >= len(heard_of(code, row)) + k
            if near:
                self.assert_half_by_locator(code, row, f, slips)
            else:
                self.assertNotEqual(half(code, row), f)

    def test_many_slips_of_large_codes(self):
        source = seeded(37)
        for k in range(1, 6):
            code = (97, k, tuple(source.sample(range(97), 16)))
            for slips in (10, 13, 16):
                row = slipped_row(source, code, some_polynomial(source, 97, k), slips)
                near = spanned_near(code, row, middling(code, row))
                self.assert_half(code, row, near[0] if near else None)


if __name__ == "__main__":
    unittest.main()
