import unittest

from plain import HUGE, PRIMES, lagrange, plain_value, seeded, small_codes, some_things
from slipcurve.codes import is_code, through, value_at


class Codes(unittest.TestCase):
    def assert_code(self, thing):
        self.assertIs(is_code(thing), True, thing)

    def assert_no_code(self, thing):
        self.assertIs(is_code(thing), False, thing)

    def test_codes(self):
        for code in small_codes():
            self.assert_code(code)
        self.assert_code((7, 2, (0, 1, 3, 5)))
        self.assert_code((97, 5, tuple(range(81, 97))))
        self.assert_code((5, 1, (0,)))
        self.assert_code((5, 5, (4, 2, 0, 1, 3)))

    def test_p_is_each_prime_from_5_to_97_and_nothing_else(self):
        for p in range(-10, 300):
            self.assertIs(is_code((p, 1, (0,))), p in PRIMES, p)
        for p in (HUGE, -HUGE, 10 ** 39 + 3, 101, 103, True, False, None, "7", (7,), [7]):
            self.assert_no_code((p, 1, (0,)))

    def test_k_is_from_1_to_5(self):
        for k in range(-3, 10):
            self.assertIs(is_code((11, k, tuple(range(10)))), 1 <= k <= 5, k)
        for k in (HUGE, -HUGE, True, False, None, "1", (1,), [1]):
            self.assert_no_code((11, k, tuple(range(10))))

    def test_at_least_k_places_and_at_most_16(self):
        for k in range(1, 6):
            for many in range(0, 23):
                self.assertIs(is_code((23, k, tuple(range(many)))), k <= many <= 16, (k, many))

    def test_places_are_unlike(self):
        self.assert_no_code((7, 2, (1, 1)))
        self.assert_no_code((7, 2, (0, 1, 2, 0)))
        self.assert_no_code((97, 1, tuple(range(15)) + (14,)))

    def test_places_are_from_0_to_p_minus_1(self):
        for p in PRIMES:
            self.assert_code((p, 2, (0, p - 1)))
            self.assert_no_code((p, 2, (0, p)))
            self.assert_no_code((p, 2, (-1, 0)))
        self.assert_no_code((7, 1, (HUGE,)))
        self.assert_no_code((7, 1, (-HUGE,)))

    def test_places_are_whole_numbers(self):
        for thing in some_things():
            if thing != 0 and thing != 1 and thing != 7:
                self.assert_no_code((11, 1, (2, thing, 3)))
        for truth in (True, False):
            self.assert_no_code((7, 1, (truth,)))
            self.assert_no_code((7, 1, (truth, 2, 3)))
            self.assert_no_code((7, 1, (0, 1, truth)))

    def test_places_are_a_tuple(self):
        for places in ([0, 1, 3], "013", 3, None, True, HUGE, [(0, 1, 3)], ((0, 1, 3),)):
            self.assert_no_code((7, 1, places))

    def test_a_code_is_a_tuple_of_three(self):
        self.assert_no_code([7, 2, (0, 1, 3)])
        self.assert_no_code((7, 2))
        self.assert_no_code((7, 2, (0, 1, 3), 1))
        self.assert_no_code(((7, 2, (0, 1, 3)),))
        self.assert_no_code("7 2 : 0 1 3")

    def test_anything_else(self):
        for thing in some_things():
            self.assert_no_code(thing)
            self.assert_no_code((7, 2, thing))
            self.assert_no_code((thing, thing, thing))

    def test_what_is_handed_in_stays(self):
        thing = (7, 1, ([0, 1], 2))
        self.assert_no_code(thing)
        self.assertEqual(thing, (7, 1, ([0, 1], 2)))


class Values(unittest.TestCase):
    def test_by_hand(self):
        self.assertEqual(value_at(7, (3, 2), 4), 4)
        self.assertEqual(value_at(7, (3, 2, 1), 2), 4)
        self.assertEqual(value_at(5, (4,), 3), 4)
        self.assertEqual(value_at(5, (0, 0, 0), 3), 0)

    def test_at_0_it_is_the_first_number(self):
        for p in PRIMES:
            for many in range(1, 41):
                numbers = tuple((p - 1 - i) % p for i in range(many))
                self.assertEqual(value_at(p, numbers, 0), p - 1)

    def test_1_to_40_numbers_at_each_x(self):
        source = seeded(5)
        for p in (5, 7, 53, 97):
            for many in range(1, 41):
                numbers = tuple(source.randrange(p) for i in range(many))
                for x in range(p):
                    value = value_at(p, numbers, x)
                    self.assertEqual(value, plain_value(p, numbers, x))
                    self.assertIs(type(value), int)
                    self.assertTrue(0 <= value < p)

    def test_the_greatest_numbers(self):
        self.assertEqual(value_at(97, (96,) * 40, 96), 0)
        self.assertEqual(value_at(97, (96,) * 39, 96), 96)


class Through(unittest.TestCase):
    def assert_through(self, p, points):
        before = list(points)
        told = through(p, points)
        self.assertEqual(points, before)
        self.assertIs(type(told), tuple)
        self.assertEqual(len(told), len(points))
        for number in told:
            self.assertIs(type(number), int)
            self.assertTrue(0 <= number < p)
        for x, y in points:
            self.assertEqual(plain_value(p, told, x), y)
        self.assertEqual(told, lagrange(p, points))
        self.assertEqual(told, through(p, points))

    def test_by_hand(self):
        self.assertEqual(through(7, [(0, 3), (1, 5)]), (3, 2))
        self.assertEqual(through(7, [(4, 6)]), (6,))
        self.assertEqual(through(5, [(0, 1), (1, 1), (2, 1)]), (1, 0, 0))
        self.assertEqual(through(5, [(3, 4), (2, 4), (0, 0), (1, 1)]), (0, 0, 1, 0))

    def test_1_to_16_points(self):
        source = seeded(6)
        for p in PRIMES:
            for many in range(1, min(p, 16) + 1):
                xs = source.sample(range(p), many)
                self.assert_through(p, [(x, source.randrange(p)) for x in xs])

    def test_all_noughts(self):
        for many in range(1, 17):
            self.assert_through(17, [(x, 0) for x in range(many)])

    def test_every_line_of_a_small_prime(self):
        for y in range(5):
            for z in range(5):
                self.assert_through(5, [(1, y), (3, z)])


if __name__ == "__main__":
    unittest.main()
