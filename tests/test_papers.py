import unittest

from plain import (
    HUGE, assert_curve, assert_polynomials, curve_of_roots, has_weights, heard_of, none_of_size, plain_near,
    plain_roots, plain_size, plain_value, seeded, slipped_row, small_codes, some_curve, some_polynomial, some_row,
    spanned_near, trial_rows, weighted,
)
from slipcurve.errors import NoCurve, NoPaper, SlipError
from slipcurve.papers import near_by, paper_holds, paper_of

LONE = [(5, 1, (3,)), (7, 1, (6, 2, 4)), (97, 1, tuple(range(16)))]


def plain_holds(code, row, t, paper):
    """The words of the document: a weight from 1 to 4, had at each heard place, and a size below m times t."""
    m, curve = paper
    if m not in (1, 2, 3, 4):
        return False
    return plain_size(code[1], curve) < m * t and has_weights(code[0], curve, weighted(heard_of(code, row), m))


def mixed_row(source, code, polynomials, silence):
    """A row of which each heard entry is the value of one of the polynomials."""
    p, k, places = code
    return [
        None if source.randrange(10) < silence else plain_value(p, source.choice(polynomials), x)
        for x in places
    ]


def changed(source, p, curve):
    """A curve with one number another one; 0 throughout it never is, as another number stays."""
    lines = [list(line) for line in curve] + [[1]]
    j = source.randrange(len(lines) - 1)
    i = source.randrange(len(lines[j]))
    lines[j][i] = (lines[j][i] + source.randrange(1, p)) % p
    if any(any(line) for line in lines[:-1]):
        lines.pop()
    return tuple(tuple(line) for line in lines)


class Holding(unittest.TestCase):
    def assert_holds_as_told(self, code, row, t, paper):
        before = list(row)
        told = paper_holds(code, row, t, paper)
        self.assertIs(told, plain_holds(code, row, t, paper), (code, row, t, paper))
        self.assertEqual(row, before)
        return told

    def test_by_hand(self):
        code, row = (7, 2, (0, 1, 3, 5)), [3, 5, 2, 0]
        # y less 3 + 2 x, and y: all four points lie on one of them.
        curve = curve_of_roots(7, [(3, 2), (0, 0)])
        self.assertIs(paper_holds(code, row, 3, (1, curve)), True)
        self.assertIs(paper_holds(code, row, 2, (1, curve)), False)
        self.assertIs(paper_holds(code, row, 3, (2, curve)), False)
        twice = curve_of_roots(7, [(3, 2), (0, 0), (3, 2), (0, 0)])
        self.assertIs(paper_holds(code, row, 3, (2, twice)), True)
        self.assertIs(paper_holds(code, row, 2, (2, twice)), False)
        self.assertIs(paper_holds(code, row, 3, (1, twice)), False)
        self.assertIs(paper_holds(code, row, 5, (1, twice)), True)
        # The size must be less than m times t, not the same.
        self.assertIs(paper_holds(code, row, 4, (1, twice)), False)

    def test_products_taken_as_often_as_the_weight(self):
        source = seeded(70)
        held = 0
        for p, k in [(5, 2), (7, 2), (7, 3), (11, 4), (17, 5), (97, 2), (97, 5)]:
            for trial in range(12):
                code = (p, k, tuple(source.sample(range(p), source.randint(k, min(p, 16)))))
                polynomials = [some_polynomial(source, p, k) for f in range(source.randint(1, 3))]
                m = source.choice([m for m in (1, 2, 3, 4) if m * len(polynomials) * (k - 1) < 60])
                row = mixed_row(source, code, polynomials, source.choice((0, 3)))
                curve = curve_of_roots(p, polynomials * m)
                size = plain_size(k, curve)
                for t in {1, size // m, size // m + 1, 16}:
                    held += self.assert_holds_as_told(code, row, max(t, 1), (m, curve))
                self.assertTrue(paper_holds(code, row, size // m + 1, (m, curve)))
        self.assertGreater(held, 100)

    def test_another_number_or_weight_or_t(self):
        source = seeded(71)
        counts = {True: 0, False: 0}
        for trial in range(60):
            p, k = source.choice([(5, 2), (7, 2), (7, 3), (11, 2), (13, 3), (97, 2)])
            code = (p, k, tuple(source.sample(range(p), source.randint(k, min(p, 8)))))
            polynomials = [some_polynomial(source, p, k) for f in range(source.randint(1, 2))]
            row = mixed_row(source, code, polynomials, 2)
            m = source.randint(1, 4)
            curve = curve_of_roots(p, polynomials * m)
            t = plain_size(k, curve) // m + 1
            for paper in [(m, changed(source, p, curve)) for spoilt in range(4)]:
                counts[self.assert_holds_as_told(code, row, t, paper)] += 1
            for other in (0, 1, 2, 3, 4, 5, 6, -1, -m, 64, HUGE, -HUGE):
                counts[self.assert_holds_as_told(code, row, t, (other, curve))] += 1
            for other in range(1, 17):
                counts[self.assert_holds_as_told(code, row, other, (m, curve))] += 1
            slipped = list(row)
            slipped[source.randrange(len(row))] = source.randrange(p)
            counts[self.assert_holds_as_told(code, slipped, t, (m, curve))] += 1
        self.assertGreater(min(counts.values()), 300)

    def test_told_papers_and_others_like_them(self):
        source = seeded(72)
        for code in [(7, 2, (0, 1, 2, 3, 4, 5, 6)), (11, 3, (10, 0, 5, 7, 3, 1, 2, 8))]:
            for row in trial_rows(code, 73):
                for t in range(1, len(row) + 1):
                    try:
                        m, curve = paper_of(code, row, t)
                    except NoPaper:
                        continue
                    self.assertTrue(self.assert_holds_as_told(code, row, t, (m, curve)))
                    for other in (0, 1, 2, 3, 4, 5, 6, -1, HUGE):
                        self.assert_holds_as_told(code, row, t, (other, curve))
                    self.assert_holds_as_told(code, row, t - 1, (m, curve))
                    self.assert_holds_as_told(code, row, t, (m, changed(source, code[0], curve)))

    def test_a_weight_out_of_1_to_4_does_not_hold(self):
        code, row = (7, 2, (0, 1, 3, 5)), [3, 5, 2, 6]
        for m in range(1, 9):
            curve = curve_of_roots(7, [(3, 2)] * m)
            # All but the bound of weights is met: it has the weight m, and its size m is less than 2 m.
            self.assertIs(paper_holds(code, row, 2, (m, curve)), m <= 4)
        for m in (0, -1, -4, -HUGE, HUGE):
            self.assertIs(paper_holds(code, row, 2, (m, ((1,),))), False)
            self.assertIs(paper_holds(code, [None] * 4, 2, (m, ((1,),))), False)

    def test_nothing_heard(self):
        source = seeded(74)
        for trial in range(60):
            k = source.randint(2, 5)
            code = (11, k, (9, 2, 4, 0, 1))
            curve = some_curve(source, 11, 4, 5)
            for m in range(0, 6):
                for t in (1, 2, 4, 16):
                    told = self.assert_holds_as_told(code, [None] * 5, t, (m, curve))
                    self.assertIs(told, 1 <= m <= 4 and plain_size(k, curve) < m * t)

    def test_one_heard_place_missed_is_enough(self):
        code = (13, 2, tuple(range(10)))
        row = [plain_value(13, (4, 6), x) for x in range(10)]
        curve = curve_of_roots(13, [(4, 6)])
        for at in range(10):
            slipped = list(row)
            slipped[at] = (slipped[at] + 5) % 13
            self.assertIs(paper_holds(code, slipped, 9, (1, curve)), False)
            slipped[at] = None
            self.assertIs(paper_holds(code, slipped, 9, (1, curve)), True)

    def test_each_that_fits_is_a_root(self):
        source = seeded(75)
        for trial in range(60):
            code = source.choice([(5, 2, (0, 1, 2, 3, 4)), (7, 2, (6, 5, 4, 3, 2, 1, 0)), (5, 3, (2, 0, 4, 1, 3))])
            p, k, places = code
            polynomials = [some_polynomial(source, p, k) for f in range(2)]
            row = mixed_row(source, code, polynomials, 1)
            m = source.randint(1, 3)
            curve = curve_of_roots(p, polynomials * m)
            for t in range(1, len(places) + 1):
                if paper_holds(code, row, t, (m, curve)):
                    roots = plain_roots(p, k, curve)
                    self.assertEqual([f for f in plain_near(code, row, t) if f not in roots], [])

    def test_the_largest_curve(self):
        code = (97, 2, tuple(range(16)))
        lines = [(0,) * 60] * 30
        lines[3] = (1,) + (0,) * 59
        # y taken three times, with as many noughts as go in.
        self.assertIs(paper_holds(code, [0] * 16, 2, (3, tuple(lines))), True)
        self.assertIs(paper_holds(code, [0] * 16, 2, (4, tuple(lines))), False)
        self.assertIs(paper_holds(code, [0] * 15 + [1], 2, (3, tuple(lines))), False)

    def test_k_1_is_refused(self):
        for code in LONE:
            for row in ([0] * len(code[2]), [None] * len(code[2])):
                for paper in [(1, ((0,), (1,))), (1, ((1,),)), (0, ((1,),)), (9, ((1,),)), (-HUGE, ((1,),))]:
                    for t in (1, 16):
                        with self.assertRaises(NoCurve):
                            paper_holds(code, row, t, paper)


class Papers(unittest.TestCase):
    def assert_least(self, code, row, t):
        """What is told holds, and no smaller weight has any; where it is refused none of the four has."""
        p, k, places = code
        before = list(row)
        points = heard_of(code, row)
        expected = next(
            (m for m in (1, 2, 3, 4) if not none_of_size(p, k, weighted(points, m), m * t - 1)), None)
        if expected is None:
            with self.assertRaises(NoPaper):
                paper_of(code, row, t)
            self.assertEqual(row, before)
            return None
        told = paper_of(code, row, t)
        self.assertEqual(row, before)
        self.assertIs(type(told), tuple)
        m, curve = told
        self.assertIs(type(m), int)
        self.assertEqual(m, expected, (code, row, t))
        assert_curve(self, p, curve)
        self.assertTrue(plain_holds(code, row, t, told), (code, row, t))
        return told

    def assert_near_by(self, code, row, t, paper, expected):
        before = list(row)
        first, second = near_by(code, row, t, paper), near_by(code, row, t, paper)
        self.assertEqual(first, expected, (code, row, t))
        assert_polynomials(self, code, first)
        self.assertIsNot(first, second)
        first.append("mine")
        self.assertEqual(near_by(code, row, t, paper), second)
        self.assertEqual(row, before)

    def test_small_codes(self):
        weights = {None: 0, 1: 0, 2: 0, 3: 0, 4: 0}
        for code in small_codes():
            if code[1] > 1 and code[0] < 17:
                for row in trial_rows(code, 76)[:9]:
                    for t in range(1, len(row) + 2):
                        told = self.assert_least(code, row, t)
                        weights[told and told[0]] += 1
                        if told:
                            self.assert_near_by(code, row, t, told, plain_near(code, row, t))
        self.assertTrue(all(weights[m] for m in (None, 1, 2)), weights)

    def test_weights_three_and_four_are_told(self):
        source = seeded(77)
        found = {}
        # In general it takes just these weights to be reached so far.
        for k, many, t, m in [(2, 7, 3, 3), (3, 4, 3, 3), (3, 7, 4, 4), (4, 5, 4, 4), (5, 8, 6, 3), (2, 13, 4, 4)]:
            code = (31, k, tuple(source.sample(range(31), many)))
            for trial in range(4):
                row = some_row(source, code, 0)
                told = self.assert_least(code, row, t)
                self.assertLessEqual(told[0], m)
                found[told[0]] = True
                self.assert_near_by(code, row, t, told, spanned_near(code, row, t))
        self.assertIn(3, found)
        self.assertIn(4, found)

    def test_large_codes(self):
        source = seeded(78)
        for k in (2, 3, 4, 5):
            code = (97, k, tuple(source.sample(range(97), 16)))
            for slips in (0, 4, 7):
                row = slipped_row(source, code, some_polynomial(source, 97, k), slips)
                for t in (16, 16 - slips, 9):
                    told = self.assert_least(code, row, t)
                    if told:
                        self.assert_near_by(code, row, t, told, spanned_near(code, row, t))

    def test_every_t_of_a_large_code(self):
        source = seeded(79)
        code = (97, 3, tuple(source.sample(range(97), 16)))
        row = some_row(source, code, 0)
        told = [self.assert_least(code, row, t) for t in (1, 2, 6, 7, 8, 9, 16)]
        self.assertEqual([paper and paper[0] for paper in told], [None, None, None, 2, 1, 1, 1])

    def test_nothing_heard(self):
        for k in (2, 3, 4, 5):
            code = (11, k, (9, 2, 4, 0, 1))
            for t in (1, 2, 5, 16):
                told = self.assert_least(code, [None] * 5, t)
                self.assertEqual(told[0], 1)
                self.assert_near_by(code, [None] * 5, t, told, [])

    def test_roots_that_fit_too_few_places_are_not_told(self):
        code, row = (7, 2, (0, 1, 3, 5)), [3, 5, 2, 0]
        curve = curve_of_roots(7, [(3, 2), (0, 0)])
        self.assert_near_by(code, row, 3, (1, curve), [(3, 2)])
        self.assert_near_by(code, row, 4, (1, curve), [])
        # By another weight, and by more roots than need be, it is told alike.
        self.assert_near_by(code, row, 3, (2, curve_of_roots(7, [(3, 2), (0, 0)] * 2)), [(3, 2)])
        self.assert_near_by(code, row, 4, (1, curve_of_roots(7, [(1, 1), (3, 2), (0, 0)])), [])

    def test_several_are_told_rising(self):
        code = (11, 2, tuple(range(10)))
        polynomials = [(9, 4), (0, 3), (5, 5)]
        row = [plain_value(11, polynomials[x % 2], x) for x in range(10)]
        curve = curve_of_roots(11, polynomials)
        self.assert_near_by(code, row, 5, (1, curve), [(0, 3), (9, 4)])
        self.assertEqual(plain_near(code, row, 5), [(0, 3), (9, 4)])

    def test_a_paper_that_does_not_hold_is_refused(self):
        code, row = (7, 2, (0, 1, 3, 5)), [3, 5, 2, 0]
        curve = curve_of_roots(7, [(3, 2), (0, 0)])
        for t, paper in [
            (2, (1, curve)), (1, (1, curve)), (3, (2, curve)), (3, (0, curve)), (3, (5, curve)), (3, (-1, curve)),
            (3, (HUGE, curve)), (3, (1, curve_of_roots(7, [(3, 2)]))), (16, (1, ((1,),))),
        ]:
            with self.assertRaises(NoPaper):
                near_by(code, row, t, paper)
        self.assertEqual(row, [3, 5, 2, 0])
        self.assertTrue(issubclass(NoPaper, SlipError))

    def test_k_1_is_refused_ahead_of_no_paper(self):
        for code in LONE:
            for row in ([0] * len(code[2]), [None] * len(code[2])):
                for t in (1, 2, 16):
                    with self.assertRaises(NoCurve):
                        paper_of(code, row, t)
                    for paper in [(1, ((0,), (1,))), (1, ((1,),)), (0, ((1,),)), (7, ((1,),))]:
                        with self.assertRaises(NoCurve):
                            near_by(code, row, t, paper)

    def test_the_same_answer_each_time(self):
        code, row = (7, 2, (0, 1, 3, 5)), [3, 5, 2, 0]
        for t in (3, 4, 16):
            self.assertEqual(paper_of(code, row, t), paper_of(code, row, t))


if __name__ == "__main__":
    unittest.main()
