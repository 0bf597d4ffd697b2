import itertools
import unittest

from plain import (
    HUGE, assert_numbers, every_polynomial, free_of_locators, heard_of, lagrange, multiplied, plain_fits, plain_near,
    plain_value, seeded, small_codes, some_polynomial, some_row, spanned_near, tried_least,
)
from slipcurve.errors import SlipError, TooFew
from slipcurve.joint import joint_locator, joint_near
from slipcurve.locators import locator_of

# With so few polynomials that all lists of as many as told can be tried.
TRIED = [
    ((5, 1, (3,)), 4), ((5, 1, (0, 1, 2, 3, 4)), 4), ((7, 1, (6, 2, 4)), 3), ((5, 2, (4, 0)), 3),
    ((5, 2, (0, 1, 2, 3, 4)), 3), ((7, 2, (0, 1, 3, 5)), 2), ((7, 2, (6, 5, 4, 3, 2, 1, 0)), 2),
    ((5, 3, (2, 0, 4, 1, 3)), 2), ((11, 2, (10, 0, 5, 7, 3, 1, 2, 8)), 2),
]


def common_fits(code, rows, polynomials):
    """The numbers of the places that each polynomial fits in its own row."""
    parts = [set(plain_fits(code, row, f)) for row, f in zip(rows, polynomials)]
    return set.intersection(*parts)


def plain_joint(code, rows, t):
    """All lists of polynomials tried one by one."""
    every = [[(f, frozenset(plain_fits(code, row, f))) for f in every_polynomial(code)] for row in rows]
    found = []
    for chosen in itertools.product(*every):
        if len(frozenset.intersection(*[places for f, places in chosen])) >= t:
            found.append(tuple(f for f, places in chosen))
    return found


def spanned_joint(code, rows, t):
    """All that fit t places (from k on), for codes with too many polynomials to try each."""
    p, k, places = code
    heard = [at for at in range(len(places)) if all(row[at] is not None for row in rows)]
    found = set()
    for some in itertools.combinations(heard, k):
        found.add(tuple(lagrange(p, [(places[at], row[at]) for at in some]) for row in rows))
    return sorted(chosen for chosen in found if len(common_fits(code, rows, chosen)) >= t)


def rows_together(source, code, many, slips, apart, silence):
    """Rows of drawn polynomials that slip at the same places, at some more apart, and are silent apart."""
    p, k, places = code
    polynomials = tuple(some_polynomial(source, p, k) for row in range(many))
    slipped = source.sample(range(len(places)), min(slips, len(places)))
    rows = []
    for f in polynomials:
        row = [plain_value(p, f, x) for x in places]
        for at in slipped + source.sample(range(len(places)), min(apart, len(places))):
            row[at] = source.randrange(p)
        rows.append([None if source.randrange(10) < silence else entry for entry in row])
    return polynomials, rows


def trial_lists(source, code, most):
    """Lists of one to so many rows of many kinds."""
    lists = []
    for many in range(1, most + 1):
        lists.append([some_row(source, code, silence) for silence in source.choices((0, 2, 5), k=many)])
        lists.append([[None] * len(code[2])] * (many - 1) + [some_row(source, code, 0)])
        for slips, apart, silence in [(0, 0, 0), (1, 0, 0), (2, 0, 1), (0, 1, 0), (1, 1, 1), (len(code[2]), 0, 0)]:
            lists.append(rows_together(source, code, many, slips, apart, silence)[1])
    return lists


class Near(unittest.TestCase):
    def assert_joint(self, code, rows, t, expected):
        before = [list(row) for row in rows]
        told = joint_near(code, rows, t)
        self.assertEqual(told, expected, (code, rows, t))
        self.assertEqual(rows, before)
        self.assertIs(type(told), list)
        self.assertEqual(told, sorted(set(told)))
        for polynomials in told:
            self.assertIs(type(polynomials), tuple)
            self.assertEqual(len(polynomials), len(rows))
            for polynomial in polynomials:
                assert_numbers(self, code[0], polynomial, code[1])

    def test_by_hand(self):
        code = (7, 2, (0, 1, 3, 5))
        first, second = [3, 5, 2, 6], [1, 1, 1, 1]
        self.assert_joint(code, [first, second], 4, [((3, 2), (1, 0))])
        self.assert_joint(code, [second, first], 4, [((1, 0), (3, 2))])
        # They slip at unlike places: of four they share two.
        self.assert_joint(code, [[0, 5, 2, 6], [1, 1, 1, 0]], 3, [])
        self.assertIn(((3, 2), (1, 0)), joint_near(code, [[0, 5, 2, 6], [1, 1, 1, 0]], 2))
        # A place must be heard in each of the rows.
        self.assert_joint(code, [[None, 5, 2, 6], [1, None, 1, 1]], 3, [])
        self.assert_joint(code, [[None, 5, 2, 6], [1, None, 1, 1]], 2, [((3, 2), (1, 0))])

    def test_against_all_lists(self):
        source = seeded(100)
        told = 0
        for code, most in TRIED:
            p, k, places = code
            for rows in trial_lists(source, code, most):
                for t in range(k, len(places) + 2):
                    expected = plain_joint(code, rows, t) if t < len(places) + 1 else []
                    self.assert_joint(code, rows, t, expected)
                    told += len(expected)
        self.assertGreater(told, 500)

    def test_of_one_row_what_is_near(self):
        source = seeded(101)
        for code in small_codes():
            p, k, places = code
            for silence in (0, 3):
                row = some_row(source, code, silence)
                for t in range(k, len(places) + 1):
                    self.assert_joint(code, [row], t, [(f,) for f in plain_near(code, row, t)])

    def test_a_row_told_twice(self):
        source = seeded(102)
        for code in small_codes():
            row = some_row(source, code, 2)
            for t in range(code[1], len(code[2]) + 1):
                near = plain_near(code, row, t)
                self.assert_joint(code, [row, row], t, [(f, f) for f in near])
                self.assert_joint(code, [row, list(row), row, row], t, [(f, f, f, f) for f in near])

    def test_large_codes(self):
        source = seeded(103)
        for p in (17, 97):
            for k in range(1, 6):
                code = (p, k, tuple(source.sample(range(p), 16)))
                for many in (2, 4):
                    polynomials, rows = rows_together(source, code, many, 6, 1, 1)
                    for t in (k, k + 1, 8):
                        if k < 4 or many == 2:
                            self.assert_joint(code, rows, t, spanned_joint(code, rows, t))
                    polynomials, rows = rows_together(source, code, many, 9, 0, 0)
                    self.assertIn(polynomials, joint_near(code, rows, 7))
                    self.assert_joint(code, rows, 7, spanned_joint(code, rows, 7))

    def test_the_largest_with_the_least_t(self):
        source = seeded(104)
        code = (97, 5, tuple(source.sample(range(97), 16)))
        rows = [some_row(source, code, 0) for row in range(4)]
        told = joint_near(code, rows, 5)
        self.assertEqual(told, sorted(set(told)))
        for polynomials in told[::100]:
            self.assertGreaterEqual(len(common_fits(code, rows, polynomials)), 5)
        for some in list(itertools.combinations(range(16), 5))[::200]:
            through = tuple(lagrange(97, [(code[2][at], row[at]) for at in some]) for row in rows)
            self.assertIn(through, told)

    def test_above_the_places_none_is_told(self):
        for code in small_codes():
            rows = [[0] * len(code[2])] * 3
            for t in (len(code[2]) + 1, 17, 300, HUGE):
                self.assert_joint(code, rows, t, [])

    def test_below_k_is_refused(self):
        for code in small_codes() + [(97, 5, tuple(range(16)))]:
            for rows in ([[0] * len(code[2])], [[None] * len(code[2])] * 4):
                for t in (code[1] - 1, 0, -1, -300, -HUGE):
                    with self.assertRaises(TooFew):
                        joint_near(code, rows, t)
                self.assertEqual(rows, [[rows[0][0]] * len(code[2])] * len(rows))
        self.assertTrue(issubclass(TooFew, SlipError))

    def test_a_new_list_each_time(self):
        code, rows = (7, 2, (0, 1, 3, 5)), [[3, 5, 2, 6], [1, 1, 1, 1]]
        first, second = joint_near(code, rows, 3), joint_near(code, rows, 3)
        self.assertEqual(first, second)
        first.append("mine")
        self.assertEqual(joint_near(code, rows, 3), second)


class Locators(unittest.TestCase):
    def told(self, code, rows):
        """The told locator, after it is found to be one."""
        p, k, places = code
        before = [list(row) for row in rows]
        locator = joint_locator(code, rows)
        self.assertEqual(rows, before)
        self.assertIs(type(locator), tuple)
        e, left, rights = locator
        self.assertIs(type(e), int)
        self.assertGreaterEqual(e, 0)
        assert_numbers(self, p, left, e + 1)
        self.assertTrue(any(left), (code, rows))
        self.assertIs(type(rights), list)
        self.assertEqual(len(rights), len(rows))
        for row, right in zip(rows, rights):
            assert_numbers(self, p, right, k + e)
            for x, y in heard_of(code, row):
                self.assertEqual(plain_value(p, right, x), plain_value(p, left, x) * y % p, (code, rows))
        return locator

    def test_by_hand(self):
        code = (7, 2, (0, 1, 3, 5))
        # Both slip at the place 5 alone, so left is 0 there.
        e, left, rights = self.told(code, [[3, 5, 2, 0], [1, 1, 1, 4]])
        self.assertEqual(e, 1)
        self.assertEqual(plain_value(7, left, 5), 0)
        self.assertEqual(rights, [tuple(multiplied(7, left, f)) for f in ((3, 2), (1, 0))])
        self.assertEqual(self.told(code, [[3, 5, 2, 6], [1, 1, 1, 1]])[0], 0)

    def test_the_least_e_against_all_lefts(self):
        source = seeded(105)
        for code, most in TRIED:
            if code[0] < 11:
                for rows in trial_lists(source, code, 4):
                    self.assertEqual(self.told(code, rows)[0], tried_least(code, rows), (code, rows))

    def test_of_one_row_the_e_of_its_locator(self):
        source = seeded(106)
        for code in small_codes() + [(97, 5, tuple(range(80, 64, -1)))]:
            for silence in (0, 2, 6):
                row = some_row(source, code, silence)
                e = self.told(code, [row])[0]
                self.assertEqual(e, locator_of(code, row)[0])
                # Told twice a row asks for no more.
                self.assertEqual(self.told(code, [row, row])[0], e)

    def test_the_least_e_of_large_codes(self):
        source = seeded(107)
        for p in (17, 97):
            for k in range(1, 6):
                code = (p, k, tuple(source.sample(range(p), 16)))
                for many in range(1, 5):
                    lists = [[some_row(source, code, silence) for row in range(many)] for silence in (0, 3, 7)]
                    lists.append([some_row(source, code, source.choice((0, 5, 10))) for row in range(many)])
                    lists += [rows_together(source, code, many, slips, 0, 0)[1] for slips in (0, 3, 8, 11)]
                    for rows in lists:
                        e = self.told(code, rows)[0]
                        self.assertTrue(e == 0 or free_of_locators(code, rows, e - 1), (code, rows))

    def test_no_more_than_the_slips(self):
        source = seeded(108)
        for p in (13, 97):
            for k in range(1, 6):
                code = (p, k, tuple(source.sample(range(p), 13)))
                for many in range(1, 5):
                    for slips in range(0, 14):
                        polynomials, rows = rows_together(source, code, many, slips, 0, source.choice((0, 1)))
                        self.assertLessEqual(self.told(code, rows)[0], slips)

    def test_more_rows_locate_more_slips(self):
        source = seeded(109)
        code = (97, 2, tuple(range(16)))
        for trial in range(10):
            polynomials, rows = rows_together(source, code, 4, 10, 0, 0)
            e, left, rights = self.told(code, rows)
            self.assertLessEqual(e, 10)
            self.assertEqual(rights, [tuple(multiplied(97, left, f)) for f in polynomials])

    def test_nothing_heard(self):
        for code in small_codes():
            for many in range(1, 5):
                self.assertEqual(self.told(code, [[None] * len(code[2])] * many)[0], 0)

    def test_one_row_not_heard(self):
        source = seeded(110)
        for code in [(7, 2, (6, 5, 4, 3, 2, 1, 0)), (17, 3, tuple(range(16)))]:
            for trial in range(5):
                row = some_row(source, code, 1)
                silent = [None] * len(row)
                e = self.told(code, [row])[0]
                self.assertEqual(self.told(code, [silent, row])[0], e)
                self.assertEqual(self.told(code, [row, silent, silent])[0], e)

    def test_new_lists_and_the_same_answer_each_time(self):
        code, rows = (7, 2, (0, 1, 3, 5)), [[3, 5, 2, 0], [1, 1, 1, 4]]
        first, second = joint_locator(code, rows), joint_locator(code, rows)
        self.assertEqual(first, second)
        first[2].append("mine")
        self.assertEqual(joint_locator(code, rows), second)


if __name__ == "__main__":
    unittest.main()
