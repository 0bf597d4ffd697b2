"""Somewhat beyond the limits of the document nothing is promised but that no error is raised."""

import unittest

from slipcurve.codes import through, value_at
from slipcurve.curves import curve_for, moved, size_of, weight_at
from slipcurve.desk import Desk
from slipcurve.errors import NoCurve, NoPaper, NoRow, NoText, TooFew
from slipcurve.guesses import curve_by, heavy, weight_of
from slipcurve.joint import joint_locator, joint_near
from slipcurve.listeners import Listener
from slipcurve.locators import half, locator_of
from slipcurve.many import due_of, many_near
from slipcurve.near import all_near, nearest
from slipcurve.papers import near_by, paper_holds, paper_of
from slipcurve.reaches import bound, reach, weight_for
from slipcurve.roots import roots_of
from slipcurve.rows import fits, is_row
from slipcurve.texts import code_text, polynomial_text, read_code, row_text

CODES = [(101, 6, tuple(range(18))), (3, 1, (0, 1, 2)), (2, 1, (0, 1)), (7, 2, (0, 7, 8)), (7, 0, (0, 1))]
CURVES = [
    tuple((1, 2, 3) * 21 for line in range(31)), ((7,), (14, -7)), ((-1, 9), (8,)), ((0,),), ((), (1,)), ((),), (),
]


def rows_beyond(code):
    p, k, places = code
    many = len(places)
    return [[0] * many, [p] * many, [-1] * many, list(range(many)), [None] * many, [1] * (many + 1), [1] * (many - 1)]


class Beyond(unittest.TestCase):
    def test_values(self):
        value_at(101, (100,) * 45, 100)
        value_at(3, (2, 1), 2)
        value_at(7, (8, -1), 9)
        value_at(7, (), 1)

    def test_points(self):
        through(97, [(x, x) for x in range(20)])
        through(7, [(0, 8), (7, -1), (9, 1)])
        through(7, [])

    def test_codes_and_rows(self):
        for code in CODES:
            p, k, places = code
            for row in rows_beyond(code):
                is_row(code, row)
                fits(code, row, (0,) * k)
                all_near(code, row, max(k, len(places) - 1))

    def test_nearest(self):
        for row in ([7, 8, 9, 10], [-1, -1, -1, -1], [0, 1, 2, 3, 4], [0, 1, 2]):
            nearest((7, 2, (0, 1, 3, 5)), row)
        nearest((7, 0, (0, 1)), [0, 1])

    def test_locators(self):
        for code in CODES:
            for row in rows_beyond(code):
                locator_of(code, row)
                half(code, row)

    def test_curves(self):
        for curve in CURVES:
            for k in (1, 2, 6):
                size_of(k, curve)
            for p in (3, 7, 101):
                for point in [(0, 0), (p, p + 1), (-1, 5)]:
                    moved(p, curve, point)
                    weight_at(p, curve, point)

    def test_curves_for_rows(self):
        for code in [(101, 6, tuple(range(12))), (3, 2, (0, 1, 2)), (7, 2, (0, 7, 8))]:
            for row in rows_beyond(code):
                for m in (-2, -1, 0, 1, 3, 5):
                    curve_for(code, row, m)

    def test_roots(self):
        for curve in CURVES:
            for p in (2, 3, 7, 101):
                for k in (0, 1, 6):
                    roots_of(p, k, curve)

    def test_reaches(self):
        for n in (-1, 0, 1, 98, 120):
            for k in (-1, 0, 1, 2, 6, 9):
                for m in (-2, -1, 0, 1, 61, 80):
                    bound(n, k, m)
                    reach(n, k, m)
                for t in (-1, 0, 3, 200):
                    weight_for(n, k, t)

    def test_papers(self):
        for code in [(101, 6, tuple(range(12))), (3, 2, (0, 1, 2)), (7, 2, (0, 7, 8))]:
            for row in rows_beyond(code):
                for t in (-1, 0, 2, 17):
                    try:
                        told = paper_of(code, row, t)
                        near_by(code, row, t, told)
                    except NoPaper:
                        pass
                for curve in CURVES:
                    paper_holds(code, row, 17, (1, curve))
                    paper_holds(code, row, 0, (1, curve))

    def test_no_curve_with_k_below_1(self):
        for ask in [
            lambda: curve_for((7, 0, (0, 1)), [0, 1], 1), lambda: paper_of((7, 0, (0, 1)), [0, 1], 1),
            lambda: curve_by((7, 0, (0, 1)), [(0, 1, 1)]),
        ]:
            self.assertRaises(NoCurve, ask)

    def test_guesses(self):
        several = [
            [], [(0, 1, 0), (1, 2, -1)], [(0, 1, 10), (0, 1, 2), (1, 1, 12)], [(2, 7, 1), (0, -1, 2), (1, 300, 3)],
            [(-1, 1, 3), (18, 1, 2), (40, 0, 1)], [(at % 2, at, 1) for at in range(33)],
            [(at, 1, 4) for at in range(17)],
        ]
        for code in CODES:
            for guesses in several:
                weight_of(code, guesses, (1,) * code[1])
                heavy(code, guesses, 100)
                if code[1] > 1:
                    curve_by(code, guesses)

    def test_rows_that_have_many(self):
        for code in CODES:
            for t in range(code[1], min(len(code[2]), 9) + 1):
                due_of(code, t)
                many_near(code, t)
        for ask in (due_of, many_near):
            self.assertRaises(TooFew, ask, (7, 3, (0, 1)), 3)
            self.assertRaises(TooFew, ask, (7, 3, (0, 1)), 2)

    def test_rows_together(self):
        for code in CODES:
            rows = rows_beyond(code)
            for some in [[], rows, rows[:5], rows[-2:], [rows[1]] * 6]:
                joint_near(code, some, max(code[1], len(code[2]) - 1))
                joint_locator(code, some)

    def test_listeners(self):
        for code in CODES:
            for slips in (-2, -1, 0, 1, 9, 20):
                listener = Listener(code, slips)
                for number in range(len(code[2])):
                    listener.hear(number, 1)
                listener.forget(0)
                listener.back()
                listener.again()
                listener.row()
                if slips < 9:
                    listener.can_be()
                    listener.sure(1)

    def test_texts(self):
        for code in CODES:
            self.assertRaises(NoText, read_code, code_text(code))
            for row in rows_beyond(code):
                row_text(row)
        for polynomial in [(), (-1,), (7, 300), (0,) * 50]:
            polynomial_text(polynomial)
        self.assertRaises(NoText, read_code, "7 2 : " + "1 " * 4000)
        self.assertRaises(NoRow, Desk().say, "hear " + "1" * 9000)
        self.assertRaises(NoText, Desk().say, "code " + "1" * 9000)


if __name__ == "__main__":
    unittest.main()
