import math
import unittest
from fractions import Fraction

from plain import HUGE, PRIMES, assert_polynomials, plain_fits, seeded, small_codes
from slipcurve.errors import SlipError, TooFew
from slipcurve.many import due_of, many_near


def plain_due(code, t):
    p, k, places = code
    return math.ceil(Fraction(math.comb(len(places), t), p ** (t - k)))


class Due(unittest.TestCase):
    def assert_due(self, code, t):
        told = due_of(code, t)
        self.assertEqual(told, plain_due(code, t), (code, t))
        self.assertIs(type(told), int)

    def test_by_hand(self):
        code = (5, 2, (0, 1, 2, 3, 4))
        # 10 choices of two; 10 of three by 5 is 2; 5 of four by 25, and 1 of five by 125, are rounded up.
        self.assertEqual([due_of(code, t) for t in (2, 3, 4, 5)], [10, 2, 1, 1])
        self.assertEqual([due_of((7, 2, tuple(range(7))), t) for t in range(2, 8)], [21, 5, 1, 1, 1, 1])
        self.assertEqual([due_of((7, 1, (6, 2, 4)), t) for t in (1, 2, 3)], [3, 1, 1])
        self.assertEqual(due_of((17, 1, tuple(range(16))), 4), 1)
        self.assertEqual(due_of((17, 5, tuple(range(16))), 8), 3)

    def test_every_count_of_places(self):
        for p in PRIMES:
            for many in range(1, min(p, 16) + 1):
                for k in range(1, min(many, 5) + 1):
                    for t in range(k, many + 1):
                        self.assert_due((p, k, tuple(range(p - 1, p - 1 - many, -1))), t)


class Many(unittest.TestCase):
    def assert_many(self, code, t):
        told = many_near(code, t)
        self.assertIs(type(told), tuple)
        row, polynomials = told
        self.assertIs(type(row), list)
        self.assertEqual(len(row), len(code[2]))
        for entry in row:
            self.assertIs(type(entry), int)
            self.assertIn(entry, range(code[0]))
        assert_polynomials(self, code, polynomials)
        self.assertGreaterEqual(len(polynomials), plain_due(code, t), (code, t))
        for polynomial in polynomials:
            self.assertGreaterEqual(len(plain_fits(code, row, polynomial)), t, (code, t))

    def test_small_codes(self):
        for code in small_codes():
            for t in range(code[1], len(code[2]) + 1):
                self.assert_many(code, t)

    def test_more_codes(self):
        source = seeded(95)
        for p in (5, 7, 11, 13):
            for many in range(1, min(p, 11) + 1):
                for k in range(1, min(many, 5) + 1):
                    code = (p, k, tuple(source.sample(range(p), many)))
                    for t in range(k, many + 1):
                        self.assert_many(code, t)

    def test_sixteen_places(self):
        source = seeded(96)
        for p in (17, 97):
            for k in range(1, 6):
                code = (p, k, tuple(source.sample(range(p), 16)))
                for t in list(range(k, k + 4)) + [8, 15, 16]:
                    self.assert_many(code, t)

    def test_new_lists_and_the_same_answer_each_time(self):
        code = (7, 2, (0, 1, 3, 5))
        for t in (2, 3, 4):
            first, second = many_near(code, t), many_near(code, t)
            self.assertEqual(first, second)
            first[0].append("mine")
            first[1].append("mine")
            self.assertEqual(many_near(code, t), second)


class Refused(unittest.TestCase):
    def test_beyond_the_bounds(self):
        for code in small_codes() + [(97, 5, tuple(range(16))), (97, 1, (50,))]:
            p, k, places = code
            for t in [k - 1, len(places) + 1, 0, -1, -300, -HUGE, 17, 97, 300, HUGE]:
                if not k <= t <= len(places):
                    with self.assertRaises(TooFew):
                        due_of(code, t)
                    with self.assertRaises(TooFew):
                        many_near(code, t)
        self.assertTrue(issubclass(TooFew, SlipError))

    def test_just_within_the_bounds(self):
        for code in small_codes():
            for t in (code[1], len(code[2])):
                self.assertGreaterEqual(due_of(code, t), 1)
                self.assertTrue(many_near(code, t)[1])


if __name__ == "__main__":
    unittest.main()
