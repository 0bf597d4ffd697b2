"""What holds for the whole program: kinds of all that is told, new lists, the same answers, nothing handed in changed."""

import copy
import unittest

from plain import (
    curve_of_roots, plain_near, plain_value, seeded, slipped_row, small_codes, some_polynomial, some_row, spanned_near,
)
from slipcurve.codes import is_code, through, value_at
from slipcurve.curves import curve_for, moved, size_of, weight_at
from slipcurve.desk import Desk
from slipcurve.errors import NoPaper, SlipError
from slipcurve.guesses import curve_by, heavy, weight_of
from slipcurve.joint import joint_locator, joint_near
from slipcurve.listeners import Listener
from slipcurve.locators import half, locator_of
from slipcurve.many import due_of, many_near
from slipcurve.near import all_near, nearest
from slipcurve.papers import near_by, paper_holds, paper_of
from slipcurve.reaches import bound, reach, weight_for
from slipcurve.roots import roots_of
from slipcurve.rows import fits, is_row
from slipcurve.texts import code_text, polynomial_text, read_code, row_text


class ListOf:
    def __init__(self, kind):
        self.kind = kind


class TupleOf:
    def __init__(self, kind):
        self.kind = kind


class Either:
    def __init__(self, *kinds):
        self.kinds = kinds


NOTHING = type(None)
POLYNOMIAL = TupleOf(int)
POLYNOMIALS = ListOf(POLYNOMIAL)
CURVE = TupleOf(TupleOf(int))
CODE = (int, int, TupleOf(int))
ROW = ListOf(Either(int, NOTHING))


def is_kind(thing, kind):
    """Whether a thing is of a kind all through; a truth is no whole number."""
    if isinstance(kind, Either):
        return any(is_kind(thing, one) for one in kind.kinds)
    if isinstance(kind, ListOf):
        return type(thing) is list and all(is_kind(one, kind.kind) for one in thing)
    if isinstance(kind, TupleOf):
        return type(thing) is tuple and all(is_kind(one, kind.kind) for one in thing)
    if isinstance(kind, tuple):
        return type(thing) is tuple and len(thing) == len(kind) and all(map(is_kind, thing, kind))
    return type(thing) is kind


def lists_in(thing):
    """All lists in a thing, itself too."""
    found = [thing] if isinstance(thing, list) else []
    if isinstance(thing, (list, tuple)):
        for one in thing:
            found += lists_in(one)
    return found


def large_codes():
    source = seeded(150)
    return [(p, k, tuple(source.sample(range(p), 16))) for p in (17, 53, 97) for k in range(1, 6)]


def asks_of(source, code):
    """For each function that takes a code: the function, what is handed in, and the kind of what is told."""
    p, k, places = code
    n = len(places)
    f = some_polynomial(source, p, k)
    row = slipped_row(source, code, f, min(n - k, 3))
    row[source.randrange(n)] = None
    rows = [row, some_row(source, code, 2), list(row)]
    guesses = [(number, plain_value(p, f, place), 3) for number, place in enumerate(places)]
    guesses.append((0, (guesses[0][1] + 1) % p, 2))
    t = max(k, n - 3)
    asks = [
        (is_code, (code,), bool), (is_row, (code, row), bool), (fits, (code, row, f), ListOf(int)),
        (all_near, (code, row, t), POLYNOMIALS),
        (locator_of, (code, row), (int, POLYNOMIAL, POLYNOMIAL)), (half, (code, row), Either(POLYNOMIAL, NOTHING)),
        (heavy, (code, guesses, 3 * n - 1), POLYNOMIALS), (weight_of, (code, guesses, f), int),
        (due_of, (code, t), int), (many_near, (code, t), (ListOf(int), POLYNOMIALS)),
        (joint_near, (code, rows, t), ListOf(TupleOf(POLYNOMIAL))),
        (joint_locator, (code, rows), (int, POLYNOMIAL, POLYNOMIALS)),
        (code_text, (code,), str), (read_code, (code_text(code),), CODE),
        (through, (p, list(zip(places, [0] * n))), POLYNOMIAL),
    ]
    if sum(entry is not None for entry in row) >= k:
        asks.append((nearest, (code, row), (int, POLYNOMIALS)))
    if k > 1:
        paper = (1, curve_of_roots(p, [f]))
        asks += [
            (curve_for, (code, row, 2), (int, CURVE)), (paper_holds, (code, row, t, paper), bool),
            (curve_by, (code, guesses[:16]), (int, CURVE)), (paper_of, (code, row, t), (int, CURVE)),
            (near_by, (code, [None] * n, k, paper), POLYNOMIALS), (roots_of, (p, k, paper[1]), POLYNOMIALS),
            (size_of, (k, paper[1]), int), (moved, (p, paper[1], (places[0], p - 1)), CURVE),
            (weight_at, (p, paper[1], (places[0], p - 1)), int),
            (bound, (n, k, 3), int), (reach, (n, k, 3), int), (weight_for, (n, k, t), Either(int, NOTHING)),
        ]
    return asks + [
        (row_text, (row,), str), (polynomial_text, (f,), str), (value_at, (p, f, places[0]), int),
    ]


class Told(unittest.TestCase):
    def assert_told(self, function, handed, kind):
        """Of its kind; asked again the same; all lists new ones; what is handed in stays."""
        before = copy.deepcopy(handed)
        try:
            first, second = function(*handed), function(*handed)
        except NoPaper:
            self.assertEqual(function, paper_of)
            return
        self.assertTrue(is_kind(first, kind), (function.__name__, handed, first))
        self.assertEqual(first, second, (function.__name__, handed))
        self.assertEqual(repr(handed), repr(before), function.__name__)
        # Both are still at hand, so lists that are not one have unlike ids.
        told_lists = [id(one) for one in lists_in(first) + lists_in(second)]
        self.assertEqual(len(set(told_lists)), len(told_lists), function.__name__)
        self.assertEqual({id(one) for one in lists_in(handed)} & set(told_lists), set(), function.__name__)
        for one in lists_in(first):
            one.clear()
        self.assertEqual(function(*handed), second, function.__name__)


class Functions(Told):
    def test_small_codes(self):
        source = seeded(151)
        for code in small_codes():
            for function, handed, kind in asks_of(source, code):
                self.assert_told(function, handed, kind)

    def test_sixteen_places(self):
        source = seeded(152)
        for code in large_codes():
            for function, handed, kind in asks_of(source, code):
                self.assert_told(function, handed, kind)

    def test_every_function_of_the_interface_is_asked(self):
        asked = {function.__name__ for function, handed, kind in asks_of(seeded(153), (7, 2, (0, 1, 3, 5)))}
        self.assertEqual(asked, set(
            "is_code value_at through is_row fits all_near nearest locator_of half size_of moved weight_at curve_for "
            "roots_of bound reach weight_for paper_of paper_holds near_by heavy weight_of curve_by due_of many_near "
            "joint_near joint_locator code_text row_text polynomial_text read_code".split()
        ))


class Objects(Told):
    def test_listeners(self):
        source = seeded(154)
        for code in small_codes() + large_codes():
            p, k, places = code
            for slips in (0, 2):
                before = copy.deepcopy(code)
                listener = Listener(code, slips)
                row = slipped_row(source, code, some_polynomial(source, p, k), min(slips, len(places)))
                for number, entry in enumerate(row):
                    self.assertIsNone(listener.hear(number, entry))
                self.assertIsNone(listener.forget(0))
                self.assertIsNone(listener.back())
                self.assertIsNone(listener.again())
                self.assertIsNone(listener.back())
                self.assert_told(listener.row, (), ROW)
                self.assert_told(listener.can_be, (), Either(POLYNOMIALS, NOTHING))
                for number in range(len(places)):
                    self.assert_told(listener.sure, (number,), Either(int, NOTHING))
                self.assertEqual(listener.row(), row)
                self.assertEqual(code, before)

    def test_desks(self):
        for code in small_codes() + large_codes():
            desk = Desk()
            self.assertEqual(desk.say("code " + code_text(code)), "ok")
            for number in range(len(code[2])):
                self.assertEqual(desk.say(f"hear {number} {number % code[0]}"), "ok")
            for row in ["row", "can", "sure 0", f"near {max(code[1], len(code[2]) - 2)}", "half"]:
                self.assert_told(desk.say, (row,), str)
            if code[1] > 1:
                self.assert_told(desk.say, ("reach 9",), str)


class Promise(unittest.TestCase):
    """All ways to the polynomials that fit t places tell the same."""

    def assert_alike(self, code, row, near):
        p, k, places = code
        heard = [at for at, entry in enumerate(row) if entry is not None]
        for t in range(k, len(places) + 1):
            expected = near(code, row, t)
            self.assertEqual(all_near(code, row, t), expected)
            self.assertEqual(joint_near(code, [row], t), [(f,) for f in expected])
            if heard:
                guesses = [(at, row[at], 1) for at in heard]
                self.assertEqual(heavy(code, guesses, t), expected)
            if k > 1:
                try:
                    paper = paper_of(code, row, t)
                except NoPaper:
                    weight = weight_for(len(heard), k, t) if heard else 1
                    self.assertTrue(weight is None or weight > 4)
                else:
                    self.assertTrue(paper_holds(code, row, t, paper))
                    self.assertEqual(near_by(code, row, t, paper), expected)
            slips = len(heard) - t
            if 0 <= slips <= 8:
                listener = Listener(code, slips)
                for at in heard:
                    listener.hear(at, row[at])
                self.assertEqual(listener.can_be(), expected)
        middling = max(k, (len(heard) + k + 1) // 2)
        self.assertEqual([f for f in [half(code, row)] if f is not None], near(code, row, middling))

    def test_small_codes(self):
        source = seeded(155)
        for code in small_codes():
            if code[0] < 17:
                for silence in (0, 2, 6):
                    self.assert_alike(code, some_row(source, code, silence), plain_near)

    def test_large_codes(self):
        source = seeded(156)
        for k in range(1, 5):
            code = (31, k, tuple(source.sample(range(31), 12)))
            self.assert_alike(code, slipped_row(source, code, some_polynomial(source, 31, k), 4), spanned_near)

    def test_rows_that_have_many(self):
        for code in small_codes():
            for t in range(code[1], len(code[2]) + 1):
                row, polynomials = many_near(code, t)
                near = all_near(code, row, t)
                self.assertGreaterEqual(len(near), due_of(code, t))
                self.assertEqual([f for f in polynomials if f not in near], [])

    def test_every_refusal_is_a_slip_error(self):
        for ask in [
            lambda: all_near((7, 2, (0, 1)), [0, 0], 1), lambda: curve_for((7, 1, (0, 1)), [0, 0], 1),
            lambda: read_code("7"), lambda: Desk().say("x"), lambda: Listener((7, 2, (0, 1)), 0).back(),
        ]:
            with self.assertRaises(SlipError):
                ask()


if __name__ == "__main__":
    unittest.main()
