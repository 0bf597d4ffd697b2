import unittest

from plain import (
    HUGE, heard_of, plain_near, plain_roots, seeded, slipped_row, small_codes, some_polynomial, some_row, spanned_near,
    trial_rows,
)
from slipcurve.curves import curve_for
from slipcurve.reaches import bound, reach, weight_for
from slipcurve.roots import roots_of


def sizes_of_pairs(k, most):
    """The sizes of all pairs (i, j) up to a size, rising: one for each pair."""
    return sorted(i + (k - 1) * j for j in range(most + 1) for i in range(most + 1) if i + (k - 1) * j <= most)


# So far that there are more pairs than 97 times 60 times 61, halved.
SIZES = {2: sizes_of_pairs(2, 600), 3: sizes_of_pairs(3, 850), 4: sizes_of_pairs(4, 1040), 5: sizes_of_pairs(5, 1200)}


def counted_bound(n, k, m):
    """The size of the first pair that is one more than n times m times (m + 1), halved."""
    return SIZES[k][n * m * (m + 1) // 2]


def counted_reach(n, k, m):
    t = 0
    while m * t <= counted_bound(n, k, m):
        t += 1
    return t


class Bounds(unittest.TestCase):
    def test_by_hand(self):
        # One place, weight 1: one pair at size 0 is not more than 1; at size 1 there are two or three.
        self.assertEqual([bound(1, k, 1) for k in (2, 3, 4, 5)], [1, 1, 1, 1])
        # Two at size 1 (x alone), then with y of size 2 there are four.
        self.assertEqual(bound(2, 3, 1), 2)
        self.assertEqual(bound(3, 2, 1), 2)
        self.assertEqual(bound(2, 2, 1), 1)
        # Seven places, k 2, weight 2: 21 asked, and 21 pairs up to the size 5 are not more.
        self.assertEqual(bound(7, 2, 2), 6)
        self.assertEqual(reach(7, 2, 2), 4)
        self.assertEqual(reach(16, 2, 1), 6)

    def test_pair_by_pair(self):
        for k in (2, 3, 4, 5):
            for n in range(1, 98):
                for m in range(1, 61):
                    self.assertEqual(bound(n, k, m), counted_bound(n, k, m), (n, k, m))

    def test_reaches(self):
        for k in (2, 3, 4, 5):
            for n in range(1, 98):
                for m in range(1, 61):
                    told = reach(n, k, m)
                    self.assertGreater(m * told, counted_bound(n, k, m), (n, k, m))
                    self.assertLessEqual(m * (told - 1), counted_bound(n, k, m), (n, k, m))

    def test_kinds(self):
        for n, k, m in [(1, 2, 1), (97, 5, 60), (16, 3, 4)]:
            self.assertIs(type(bound(n, k, m)), int)
            self.assertIs(type(reach(n, k, m)), int)


class CurvesAndReaches(unittest.TestCase):
    def assert_reached(self, code, row, m, near):
        """No greater than the bound, and a root is each one that fits reach places."""
        p, k, places = code
        heard = len(heard_of(code, row))
        size, curve = curve_for(code, row, m)
        self.assertLessEqual(size, bound(heard, k, m), (code, row, m))
        t = reach(heard, k, m)
        roots = roots_of(p, k, curve)
        # The least curve itself reaches as far at least as the bound does.
        least = size // m + 1
        self.assertLessEqual(least, t)
        if least <= heard:
            self.assertEqual([f for f in near(code, row, least) if f not in roots], [], (code, row, m))
        return t <= heard

    def test_small_codes(self):
        reached = 0
        for code in small_codes():
            if code[1] > 1 and code[0] < 17:
                for row in trial_rows(code, 60):
                    if heard_of(code, row):
                        for m in (1, 2, 3, 4):
                            reached += self.assert_reached(code, row, m, plain_near)
        self.assertGreater(reached, 50)

    def test_large_codes(self):
        source = seeded(61)
        for k in (2, 3, 4, 5):
            for p in (17, 97):
                code = (p, k, tuple(source.sample(range(p), 16)))
                rows = [some_row(source, code, 3)]
                rows += [slipped_row(source, code, some_polynomial(source, p, k), slips) for slips in (5, 7)]
                for row in rows:
                    for m in (1, 2):
                        self.assert_reached(code, row, m, spanned_near)

    def test_the_greatest_weight(self):
        source = seeded(62)
        for k in (2, 5):
            code = (97, k, tuple(source.sample(range(97), 16)))
            t = reach(16, k, 4)
            f = some_polynomial(source, 97, k)
            row = slipped_row(source, code, f, 16 - t)
            self.assertTrue(self.assert_reached(code, row, 4, spanned_near))
            self.assertIn(f, roots_of(97, k, curve_for(code, row, 4)[1]))

    def test_roots_told_apart(self):
        code = (7, 2, (0, 1, 2, 3, 4, 5, 6))
        for row in trial_rows(code, 63):
            for m in (1, 2):
                n = len(heard_of(code, row))
                if n and reach(n, 2, m) <= n:
                    roots = plain_roots(7, 2, curve_for(code, row, m)[1])
                    for f in plain_near(code, row, reach(n, 2, m)):
                        self.assertIn(f, roots)


class WeightsFor(unittest.TestCase):
    def test_against_each_weight(self):
        told_none = 0
        for k in (2, 3, 4, 5):
            for n in list(range(1, 34)) + [50, 71, 96, 97]:
                reaches = [counted_reach(n, k, m) for m in range(1, 61)]
                for t in list(range(max(reaches) + 2)) + [n, 97, 98, 300]:
                    expected = next((m for m in range(1, 61) if reaches[m - 1] <= t), None)
                    told = weight_for(n, k, t)
                    self.assertEqual(told, expected, (n, k, t))
                    self.assertIn(type(told), (int, type(None)))
                    told_none += told is None
        self.assertGreater(told_none, 500)

    def test_by_hand(self):
        # Sixteen places, k 2: six by weight 1, five by weight 2; four times four is sixteen, too few for any.
        self.assertEqual([weight_for(16, 2, t) for t in (4, 5, 6, 7, 16)], [None, 2, 1, 1, 1])
        self.assertEqual(weight_for(1, 2, 1), None)
        self.assertEqual(weight_for(1, 2, 2), 1)

    def test_the_weights_end_at_sixty(self):
        self.assertEqual([weight_for(74, 4, 15), weight_for(95, 4, 17), weight_for(71, 3, 12)], [60, 59, 60])
        self.assertEqual(counted_reach(74, 4, 60), 15)
        # These would be reached by a weight a little above 60.
        for n, k, t in [(40, 3, 9), (80, 5, 18), (33, 4, 10)]:
            self.assertTrue(any(reach(n, k, m) <= t for m in range(61, 71)))
            self.assertIsNone(weight_for(n, k, t))

    def test_none_below_one_place(self):
        for n in (1, 16, 97):
            for k in (2, 3, 4, 5):
                for t in (0, -1, -300, -HUGE):
                    self.assertIsNone(weight_for(n, k, t))
                self.assertEqual(weight_for(n, k, HUGE), 1)

    def test_the_same_answer_each_time(self):
        self.assertEqual([weight_for(16, 3, t) for t in range(17)], [weight_for(16, 3, t) for t in range(17)])


if __name__ == "__main__":
    unittest.main()
