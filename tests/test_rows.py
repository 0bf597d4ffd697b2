import unittest

from plain import HUGE, every_polynomial, plain_fits, seeded, small_codes, some_row, some_things
from slipcurve.rows import fits, is_row

CODE = (7, 2, (0, 1, 3, 5))


class Rows(unittest.TestCase):
    def test_rows(self):
        for row in ([0, 1, 2, 3], [6, 6, 6, 6], [None, 0, None, 6], [None] * 4):
            self.assertIs(is_row(CODE, row), True, row)

    def test_rows_of_many_codes(self):
        source = seeded(7)
        for code in small_codes() + [(97, 5, tuple(range(81, 97)))]:
            for silence in (0, 5, 10):
                self.assertIs(is_row(code, some_row(source, code, silence)), True)

    def test_no_tuple(self):
        self.assertIs(is_row(CODE, (0, 1, 2, 3)), False)
        self.assertIs(is_row(CODE, (None,) * 4), False)

    def test_one_entry_more_or_fewer(self):
        for many in range(0, 10):
            self.assertIs(is_row(CODE, [0] * many), many == 4, many)
            self.assertIs(is_row(CODE, [None] * many), many == 4, many)

    def test_each_entry_is_a_number_or_none(self):
        wrong = [7, 8, -1, HUGE, -HUGE, True, False, "", "1", "-", [], [1], (), (1,), (None,), [None]]
        for at in range(4):
            for entry in wrong:
                row = [0, 1, None, 3]
                row[at] = entry
                self.assertIs(is_row(CODE, row), False, row)
            for entry in (0, 6, None):
                row = [0, 1, None, 3]
                row[at] = entry
                self.assertIs(is_row(CODE, row), True, row)

    def test_anything_else(self):
        for thing in some_things():
            self.assertIs(is_row(CODE, thing), False, thing)
            self.assertIs(is_row(CODE, (thing,) * 4), False, thing)
        self.assertIs(is_row(CODE, {0: 1, 1: 1, 2: 1, 3: 1}), False)

    def test_what_is_handed_in_stays(self):
        row = [0, None, 9, [1]]
        is_row(CODE, row)
        self.assertEqual(row, [0, None, 9, [1]])


class Fits(unittest.TestCase):
    def test_by_hand(self):
        self.assertEqual(fits(CODE, [3, 5, 2, 6], (3, 2)), [0, 1, 2, 3])
        self.assertEqual(fits(CODE, [3, 4, 2, 5], (3, 2)), [0, 2])
        self.assertEqual(fits(CODE, [3, None, 2, None], (3, 2)), [0, 2])
        self.assertEqual(fits(CODE, [None] * 4, (0, 0)), [])
        self.assertEqual(fits(CODE, [1, 1, 1, 1], (0, 0)), [])

    def test_places_are_numbered_as_they_stand(self):
        self.assertEqual(fits((7, 2, (5, 3, 1, 0)), [6, 0, 5, 3], (3, 2)), [0, 2, 3])

    def test_every_polynomial_of_small_codes(self):
        source = seeded(8)
        for code in small_codes():
            row = some_row(source, code, 3)
            before = list(row)
            for polynomial in every_polynomial(code):
                told = fits(code, row, polynomial)
                self.assertEqual(told, plain_fits(code, row, polynomial))
                self.assertIs(type(told), list)
            self.assertEqual(row, before)

    def test_a_new_list_each_time(self):
        row = [3, 5, 2, 6]
        first = fits(CODE, row, (3, 2))
        second = fits(CODE, row, (3, 2))
        self.assertIsNot(first, second)
        first.append(9)
        self.assertEqual(second, [0, 1, 2, 3])
        self.assertEqual(fits(CODE, row, (3, 2)), [0, 1, 2, 3])


if __name__ == "__main__":
    unittest.main()
