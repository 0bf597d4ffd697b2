"""Somewhat beyond the limits of the document nothing is promised but that no error is raised."""

import unittest

from slipcurve.codes import through, value_at
from slipcurve.near import all_near, nearest
from slipcurve.rows import fits, is_row


class Beyond(unittest.TestCase):
    def test_values(self):
        value_at(101, (100,) * 45, 100)
        value_at(3, (2, 1), 2)
        value_at(7, (8, -1), 9)
        value_at(7, (), 1)

    def test_points(self):
        through(97, [(x, x) for x in range(20)])
        through(7, [(0, 8), (7, -1), (9, 1)])
        through(7, [])

    def test_codes_and_rows(self):
        codes = [(101, 6, tuple(range(18))), (3, 1, (0, 1, 2)), (2, 1, (0, 1)), (7, 2, (0, 7, 8)), (7, 0, (0, 1))]
        for code in codes:
            p, k, places = code
            for row in ([0] * len(places), [p] * len(places), [-1] * len(places), [0] * (len(places) + 1)):
                is_row(code, row)
                fits(code, row, (0,) * k)
                all_near(code, row, max(k, len(places) - 1))

    def test_nearest(self):
        for row in ([7, 8, 9, 10], [-1, -1, -1, -1], [0, 1, 2, 3, 4], [0, 1, 2]):
            nearest((7, 2, (0, 1, 3, 5)), row)
        nearest((7, 0, (0, 1)), [0, 1])


if __name__ == "__main__":
    unittest.main()
