import itertools
import unittest

from plain import (
    HUGE, PRIMES, assert_curve, assert_polynomials, every_polynomial, has_weights, lagrange, none_of_size, plain_roots,
    plain_size, plain_value, seeded, small_codes, some_polynomial,
)
from slipcurve.errors import NoCurve, SlipError, TooFew
from slipcurve.guesses import curve_by, heavy, weight_of
from slipcurve.roots import roots_of


def plain_weight_of(code, guesses, polynomial):
    p, k, places = code
    return sum(w for number, entry, w in guesses if plain_value(p, polynomial, places[number]) == entry)


def bound_of(code, guesses):
    """What guesses at k - 1 places come to at most, all choices of them tried."""
    most = 0
    for many in range(code[1]):
        for some in itertools.combinations(guesses, many):
            if len({number for number, entry, w in some}) == many:
                most = max(most, sum(w for number, entry, w in some))
    return most


def some_guesses(source, code, many, weights, place_numbers=None):
    """So many guesses, or as many as there can be, in any order; no two with one number and one entry."""
    p, k, places = code
    numbers = range(len(places)) if place_numbers is None else place_numbers
    every = [(number, entry) for number in numbers for entry in range(p)]
    return [(number, entry, source.choice(weights)) for number, entry in source.sample(every, min(many, len(every)))]


def guesses_around(source, code, polynomials, weights, wrong):
    """Guesses that are values of the polynomials, and some more that may be wrong."""
    p, k, places = code
    found = {}
    for f in polynomials:
        for number in source.sample(range(len(places)), source.randint(1, len(places))):
            found[number, plain_value(p, f, places[number])] = source.choice(weights)
    for trial in range(wrong):
        found.setdefault((source.randrange(len(places)), source.randrange(p)), source.choice(weights))
    guesses = [(number, entry, w) for (number, entry), w in found.items()]
    source.shuffle(guesses)
    return guesses[:30]


def trial_guesses(source, code):
    """Guesses of many kinds: one, many, at one place alone, of one weight, around polynomials."""
    p, k, places = code
    around = [some_polynomial(source, p, k) for f in range(2)]
    return [
        some_guesses(source, code, 1, (9,)),
        some_guesses(source, code, 4, (1, 2, 3)),
        some_guesses(source, code, 12, range(1, 10)),
        some_guesses(source, code, 30, range(1, 10)),
        some_guesses(source, code, 30, (1,)),
        some_guesses(source, code, 5, range(1, 10), [len(places) - 1]),
        guesses_around(source, code, around, range(1, 10), 4),
        guesses_around(source, code, around, (2, 3), 2),
        guesses_around(source, code, around[:1], (9,), 0),
    ]


def spanned_heavy(code, guesses, least):
    """All that weigh enough, for codes with too many polynomials to try each (least above the bound)."""
    p, k, places = code
    found = set()
    for some in itertools.combinations(guesses, k):
        if len({number for number, entry, w in some}) == k:
            found.add(lagrange(p, [(places[number], entry) for number, entry, w in some]))
    return sorted(f for f in found if plain_weight_of(code, guesses, f) >= least)


class Heavy(unittest.TestCase):
    def assert_heavy(self, code, guesses, least, expected):
        before = list(guesses)
        told = heavy(code, guesses, least)
        self.assertEqual(told, expected, (code, guesses, least))
        self.assertEqual(guesses, before)
        assert_polynomials(self, code, told)

    def assert_refused(self, code, guesses, least):
        before = list(guesses)
        with self.assertRaises(TooFew):
            heavy(code, guesses, least)
        self.assertEqual(guesses, before)

    def test_by_hand(self):
        code = (7, 2, (0, 1, 3, 5))
        guesses = [(0, 3, 5), (1, 5, 2), (2, 2, 1), (2, 4, 3), (3, 0, 4)]
        # 3 + 2 x has 3, 5, 2, 6 there: 5 and 2 and 1.
        self.assertEqual(weight_of(code, guesses, (3, 2)), 8)
        self.assertEqual(weight_of(code, guesses, (1, 0)), 0)
        # The numbers are those of the places, not the places: 3 + 5 x has 4 at 3, the third, and 0 at 5, the fourth.
        self.assertEqual(weight_of(code, guesses, (3, 5)), 12)
        self.assert_heavy(code, guesses, 8, [(3, 2), (3, 5)])
        self.assert_heavy(code, guesses, 9, [(3, 5)])
        self.assert_heavy(code, guesses, 12, [(3, 5)])
        self.assert_heavy(code, guesses, 13, [])
        self.assert_refused(code, guesses, 5)

    def test_against_all_polynomials(self):
        source = seeded(80)
        told = 0
        for code in small_codes():
            for guesses in trial_guesses(source, code):
                bound = bound_of(code, guesses)
                weights = {f: plain_weight_of(code, guesses, f) for f in every_polynomial(code)}
                for f in source.sample(list(weights), min(5, len(weights))):
                    self.assertEqual(weight_of(code, guesses, f), weights[f])
                most = max(weights.values())
                for least in sorted({bound + 1, bound + 2, (bound + most) // 2 + 1, most, most + 1, most + 9}):
                    if least > bound:
                        expected = sorted(f for f in weights if weights[f] >= least)
                        self.assert_heavy(code, guesses, least, expected)
                        told += len(expected)
        self.assertGreater(told, 1000)

    def test_refused_up_to_the_bound(self):
        source = seeded(81)
        for code in small_codes():
            for guesses in trial_guesses(source, code):
                bound = bound_of(code, guesses)
                for least in (bound, bound - 1, 1 if bound else 0, 0, -1, -270, -HUGE):
                    self.assert_refused(code, guesses, least)
                heavy(code, guesses, bound + 1)

    def test_with_k_1_the_bound_is_nought(self):
        code = (7, 1, (6, 2, 4))
        guesses = [(0, 3, 9), (1, 3, 2), (1, 5, 1), (2, 0, 1)]
        self.assert_refused(code, guesses, 0)
        self.assert_refused(code, guesses, -1)
        self.assert_heavy(code, guesses, 1, [(0,), (3,), (5,)])
        self.assert_heavy(code, guesses, 2, [(3,)])
        self.assert_heavy(code, guesses, 11, [(3,)])
        self.assert_heavy(code, guesses, 12, [])

    def test_of_each_place_only_its_greatest_guess_counts(self):
        code = (11, 3, (4, 0, 9, 2, 7))
        # Two nines at one place do not come together; 9 and 8 do.
        guesses = [(2, 1, 9), (2, 5, 9), (2, 6, 9), (0, 3, 8), (4, 4, 1), (1, 1, 1)]
        for least in (17, 16, 9):
            self.assert_refused(code, guesses, least)
        expected = sorted(f for f in every_polynomial(code) if plain_weight_of(code, guesses, f) >= 18)
        self.assert_heavy(code, guesses, 18, expected)
        self.assertTrue(expected)

    def test_fewer_guessed_places_than_k(self):
        code = (7, 3, (1, 2, 3, 4, 5, 6))
        guesses = [(3, 1, 9), (3, 2, 4), (5, 0, 2)]
        self.assert_refused(code, guesses, 11)
        self.assert_heavy(code, guesses, 12, [])
        self.assert_refused(code, guesses[:2], 9)
        self.assert_heavy(code, guesses[:2], 10, [])

    def test_far_weights(self):
        source = seeded(82)
        for code in small_codes():
            guesses = some_guesses(source, code, 30, range(1, 10))
            for least in (271, 300, HUGE):
                self.assert_heavy(code, guesses, least, [])

    def test_in_another_order(self):
        source = seeded(83)
        for code in [(7, 2, (0, 1, 3, 5)), (13, 3, tuple(range(10))), (97, 5, tuple(range(50, 66)))]:
            f = some_polynomial(source, code[0], code[1])
            guesses = guesses_around(source, code, [f], range(1, 10), 8)
            least = bound_of(code, guesses) + 1
            told = heavy(code, guesses, least)
            for trial in range(6):
                other = source.sample(guesses, len(guesses))
                self.assertEqual(heavy(code, other, least), told)
                self.assertEqual(weight_of(code, other, f), plain_weight_of(code, guesses, f))
            self.assertEqual(heavy(code, sorted(guesses), least), told)

    def test_a_new_list_each_time(self):
        code, guesses = (7, 2, (0, 1, 3, 5)), [(0, 3, 5), (1, 5, 2), (2, 2, 1), (3, 0, 4)]
        first, second = heavy(code, guesses, 6), heavy(code, guesses, 6)
        self.assertIsNot(first, second)
        first.append("mine")
        self.assertEqual(heavy(code, guesses, 6), second)

    def test_large_codes(self):
        source = seeded(84)
        for p in (17, 97):
            for k in range(1, 6):
                code = (p, k, tuple(source.sample(range(p), 16)))
                planted = [some_polynomial(source, p, k) for f in range(2)]
                for guesses in [
                    guesses_around(source, code, planted, range(1, 10), 6)[:30 if k < 4 else 14],
                    some_guesses(source, code, 30 if k < 4 else 14, (2, 3)),
                ]:
                    bound = bound_of(code, guesses)
                    for least in (bound + 1, bound + 3, bound + 12):
                        self.assert_heavy(code, guesses, least, spanned_heavy(code, guesses, least))

    def test_the_most_guesses_of_the_largest_code(self):
        source = seeded(85)
        code = (97, 5, tuple(source.sample(range(97), 16)))
        f = some_polynomial(source, 97, 5)
        guesses = [(number, plain_value(97, f, place), 2) for number, place in enumerate(code[2])]
        guesses += [(number, (entry + 1 + number) % 97, 3) for number, entry, w in guesses[:14]]
        self.assertEqual(len(guesses), 30)
        told = heavy(code, guesses, 32)
        self.assertIn(f, told)
        self.assertTrue(all(plain_weight_of(code, guesses, g) >= 32 for g in told))
        told = heavy(code, guesses, 13)
        assert_polynomials(self, code, told)
        self.assertTrue(all(plain_weight_of(code, guesses, g) >= 13 for g in told))
        # Each five guesses of 3 tell one that weighs 15 at least.
        for some in itertools.combinations(guesses[16:25], 5):
            self.assertIn(lagrange(97, [(code[2][number], entry) for number, entry, w in some]), told)


class Weights(unittest.TestCase):
    def test_drawn_polynomials(self):
        source = seeded(86)
        for p in PRIMES:
            for k in range(1, 6):
                code = (p, k, tuple(source.sample(range(p), source.randint(k, min(p, 16)))))
                polynomials = [some_polynomial(source, p, k) for f in range(3)]
                guesses = guesses_around(source, code, polynomials, range(1, 10), 3)
                before = list(guesses)
                for f in polynomials + [(0,) * k, some_polynomial(source, p, k)]:
                    told = weight_of(code, guesses, f)
                    self.assertEqual(told, plain_weight_of(code, guesses, f))
                    self.assertIs(type(told), int)
                self.assertEqual(guesses, before)

    def test_none_and_all(self):
        code = (11, 2, (3, 8, 1, 10))
        guesses = [(number, plain_value(11, (4, 9), place), 9) for number, place in enumerate(code[2])]
        self.assertEqual(weight_of(code, guesses, (4, 9)), 36)
        self.assertEqual(weight_of(code, guesses, (5, 9)), 0)
        self.assertEqual(weight_of(code, guesses, (4, 8)), 0)


class CurvesForGuesses(unittest.TestCase):
    def assert_least(self, code, guesses):
        """The told size is that of the told curve, it has all weights, and no smaller curve has."""
        p, k, places = code
        before = list(guesses)
        pair = curve_by(code, guesses)
        self.assertEqual(guesses, before)
        self.assertIs(type(pair), tuple)
        size, curve = pair
        self.assertIs(type(size), int)
        assert_curve(self, p, curve)
        self.assertEqual(size, plain_size(k, curve))
        points = [(places[number], entry, w) for number, entry, w in guesses]
        self.assertTrue(has_weights(p, curve, points), (code, guesses))
        self.assertTrue(none_of_size(p, k, points, size - 1), (code, guesses))
        return size, curve

    def test_by_hand(self):
        code = (7, 2, (0, 1, 3, 5))
        # All on 3 + 2 x: the line, taken as often as the greatest weight.
        on_line = [(0, 3), (1, 5), (2, 2), (3, 6)]
        for m in (1, 2, 3):
            self.assertEqual(self.assert_least(code, [(a, b, m) for a, b in on_line])[0], m)
        # Two values at one place: y can not pass both, but x - 1 does.
        self.assertEqual(self.assert_least(code, [(1, 0, 1), (1, 6, 1)])[0], 1)
        self.assertEqual(self.assert_least(code, [(1, entry, 3) for entry in range(7)])[0], 3)
        self.assertEqual(self.assert_least((7, 4, code[2]), [(1, 0, 1), (1, 6, 1), (2, 3, 1)])[0], 2)

    def test_small_codes(self):
        source = seeded(87)
        for code in small_codes():
            p, k, places = code
            if k > 1 and p < 17:
                for weights in ((1,), (1, 2), (1, 2, 3), (3,)):
                    self.assert_least(code, some_guesses(source, code, 5, weights))
                    self.assert_least(code, some_guesses(source, code, 12, weights))
                    self.assert_least(code, some_guesses(source, code, 4, weights, [0]))
                    self.assert_least(code, some_guesses(source, code, 1, weights))

    def test_all_that_weigh_more_than_the_size_are_roots(self):
        source = seeded(88)
        found = 0
        for trial in range(80):
            code = source.choice([(5, 2, (0, 1, 2, 3, 4)), (7, 2, (6, 5, 4, 3, 2, 1, 0)), (5, 3, (2, 0, 4, 1, 3))])
            p, k, places = code
            around = [some_polynomial(source, p, k) for f in range(source.randint(1, 2))]
            guesses = guesses_around(source, code, around, (1, 2, 3), 2)[:16]
            size, curve = self.assert_least(code, guesses)
            roots = plain_roots(p, k, curve)
            for f in every_polynomial(code):
                if plain_weight_of(code, guesses, f) > size:
                    found += 1
                    self.assertIn(f, roots)
        self.assertGreater(found, 20)

    def test_large_codes(self):
        source = seeded(89)
        for p in (17, 97):
            for k in (2, 3, 4, 5):
                code = (p, k, tuple(source.sample(range(p), 16)))
                f = some_polynomial(source, p, k)
                right = [(number, plain_value(p, f, place), source.choice((2, 3))) for number, place in
                         source.sample(list(enumerate(code[2])), 13)]
                wrong = [(number, (entry + 1) % p, 1) for number, entry, w in source.sample(right, 3)]
                size, curve = self.assert_least(code, right + wrong)
                self.assertGreater(plain_weight_of(code, right + wrong, f), size)
                self.assertIn(f, roots_of(p, k, curve))
                self.assert_least(code, some_guesses(source, code, 16, (1, 2, 3)))

    def test_the_most_and_heaviest_guesses(self):
        source = seeded(90)
        for k in (2, 5):
            code = (97, k, tuple(source.sample(range(97), 16)))
            self.assert_least(code, some_guesses(source, code, 16, (3,)))

    def test_k_1_is_refused(self):
        for code in [(5, 1, (3,)), (7, 1, (6, 2, 4)), (97, 1, tuple(range(16)))]:
            guesses = [(0, 1, 1), (0, 4, 3)]
            with self.assertRaises(NoCurve):
                curve_by(code, guesses)
            self.assertEqual(guesses, [(0, 1, 1), (0, 4, 3)])
        self.assertTrue(issubclass(NoCurve, SlipError))

    def test_the_same_answer_each_time(self):
        code, guesses = (7, 2, (0, 1, 3, 5)), [(0, 3, 3), (1, 5, 2), (2, 2, 1), (3, 0, 2)]
        self.assertEqual(curve_by(code, guesses), curve_by(code, guesses))


if __name__ == "__main__":
    unittest.main()
