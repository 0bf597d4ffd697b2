import unittest

from plain import (
    HUGE, assert_polynomials, heard_of, plain_near, plain_value, seeded, slipped_row, small_codes, some_polynomial,
    spanned_near,
)
from slipcurve.errors import Heard, NoNumber, NoPlace, NotHeard, NothingLeft, SlipError
from slipcurve.listeners import Listener

CODE = (7, 2, (0, 1, 3, 5))


class Apart:
    """What a listener should have heard, kept as all its rows one behind the other, and where it stands there."""

    def __init__(self, code):
        self.rows = [[None] * len(code[2])]
        self.at = 0

    def row(self):
        return self.rows[self.at]

    def put(self, number, entry):
        row = list(self.row())
        row[number] = entry
        self.rows = self.rows[:self.at + 1] + [row]
        self.at += 1


def can_be_apart(code, row, slips, near):
    heard = len(heard_of(code, row))
    return None if heard < code[1] + slips else near(code, row, heard - slips)


def sure_apart(code, can, number):
    values = {plain_value(code[0], f, code[2][number]) for f in can or []}
    return values.pop() if len(values) == 1 else None


class Told(unittest.TestCase):
    def assert_refused(self, refusal, listener, ask):
        """The very class, and nothing is changed by it."""
        before = listener.row()
        with self.assertRaises(SlipError) as caught:
            ask()
        self.assertIs(type(caught.exception), refusal)
        self.assertEqual(listener.row(), before)

    def assert_told(self, listener, code, slips, row, near):
        """All that is asked of a listener, against the row that is kept apart."""
        told = listener.row()
        self.assertEqual(told, row)
        self.assertIs(type(told), list)
        can = listener.can_be()
        self.assertEqual(can, can_be_apart(code, row, slips, near), (code, slips, row))
        if can is not None:
            assert_polynomials(self, code, can)
        for number in range(len(code[2])):
            sure = listener.sure(number)
            self.assertEqual(sure, sure_apart(code, can, number))
            self.assertIn(type(sure), (int, type(None)))

    def do_some(self, source, listener, apart, code):
        """One deed, back or again, as drawn; what is refused is found to be due."""
        p, k, places = code
        number = source.randrange(len(places))
        what = source.choice(("hear", "hear", "hear", "forget", "back", "again"))
        if what == "hear":
            entry = source.randrange(p)
            if apart.row()[number] is not None:
                self.assert_refused(Heard, listener, lambda: listener.hear(number, entry))
            else:
                self.assertIsNone(listener.hear(number, entry))
                apart.put(number, entry)
        elif what == "forget":
            if apart.row()[number] is None:
                self.assert_refused(NotHeard, listener, lambda: listener.forget(number))
            else:
                self.assertIsNone(listener.forget(number))
                apart.put(number, None)
        elif what == "back":
            if apart.at == 0:
                self.assert_refused(NothingLeft, listener, listener.back)
            else:
                self.assertIsNone(listener.back())
                apart.at -= 1
        elif apart.at == len(apart.rows) - 1:
            self.assert_refused(NothingLeft, listener, listener.again)
        else:
            self.assertIsNone(listener.again())
            apart.at += 1


class Hearing(Told):
    def test_by_hand(self):
        listener = Listener(CODE, 1)
        self.assertEqual(listener.row(), [None, None, None, None])
        self.assertIsNone(listener.can_be())
        self.assertIsNone(listener.hear(0, 3))
        listener.hear(3, 0)
        self.assertIsNone(listener.can_be())
        self.assertIsNone(listener.sure(0))
        listener.hear(1, 5)
        # Three are heard: k and one slip. Each two of them tell a line.
        self.assertEqual(listener.row(), [3, 5, None, 0])
        self.assertEqual(listener.can_be(), [(1, 4), (3, 2), (3, 5)])
        self.assertIsNone(listener.sure(0))
        listener.hear(2, 2)
        self.assertEqual(listener.can_be(), [(3, 2)])
        self.assertEqual([listener.sure(number) for number in range(4)], [3, 5, 2, 6])
        self.assertIsNone(listener.forget(2))
        self.assertEqual(listener.row(), [3, 5, None, 0])

    def test_places_are_told_by_their_numbers(self):
        listener = Listener((11, 2, (9, 4, 7)), 0)
        listener.hear(1, 10)
        self.assertEqual(listener.row(), [None, 10, None])
        listener.hear(2, 10)
        self.assertEqual(listener.can_be(), [(10, 0)])
        self.assertEqual(listener.sure(0), 10)

    def test_none_can_be(self):
        listener = Listener(CODE, 0)
        for number, entry in enumerate([0, 0, 1, 0]):
            listener.hear(number, entry)
        self.assertEqual(listener.can_be(), [])
        self.assertEqual([listener.sure(number) for number in range(4)], [None] * 4)

    def test_small_codes_with_all_slips(self):
        source = seeded(120)
        early = told = 0
        for code in small_codes():
            p, k, places = code
            for slips in range(9):
                listener, row = Listener(code, slips), [None] * len(places)
                values = slipped_row(source, code, some_polynomial(source, p, k), min(slips, len(places)) // 2)
                for number in source.sample(range(len(places)), len(places)):
                    listener.hear(number, values[number])
                    row[number] = values[number]
                    self.assert_told(listener, code, slips, row, plain_near)
                    early += listener.can_be() is None
                    told += listener.can_be() is not None
        self.assertGreater(early, 100)
        self.assertGreater(told, 100)

    def test_just_as_many_heard_as_needed(self):
        code = (17, 3, tuple(range(16)))
        for slips in range(9):
            listener = Listener(code, slips)
            for number in range(3 + slips):
                self.assertIsNone(listener.can_be())
                listener.hear(number, 0)
            self.assertIn((0, 0, 0), listener.can_be())
            listener.forget(0)
            self.assertIsNone(listener.can_be())
            self.assertIsNone(listener.sure(0))

    def test_large_codes(self):
        source = seeded(121)
        for p in (17, 97):
            for k in range(1, 6):
                for slips in (0, 3, 8):
                    code = (p, k, tuple(source.sample(range(p), 16)))
                    f = some_polynomial(source, p, k)
                    values = slipped_row(source, code, f, slips)
                    listener, row = Listener(code, slips), [None] * 16
                    for count, number in enumerate(source.sample(range(16), 16)):
                        listener.hear(number, values[number])
                        row[number] = values[number]
                        if count + 1 == k + slips or count in (13, 15):
                            self.assert_told(listener, code, slips, row, spanned_near)
                    if listener.can_be() is not None:
                        self.assertIn(f, listener.can_be())

    def test_told_lists_are_new_ones(self):
        listener = Listener(CODE, 1)
        for number, entry in enumerate([3, 5, 2, 0]):
            listener.hear(number, entry)
        self.assertIsNot(listener.row(), listener.row())
        listener.row()[0] = None
        listener.row().clear()
        self.assertEqual(listener.row(), [3, 5, 2, 0])
        self.assertIsNot(listener.can_be(), listener.can_be())
        listener.can_be().clear()
        self.assertEqual(listener.can_be(), [(3, 2)])
        self.assertEqual(listener.sure(3), 6)

    def test_a_told_row_stays_as_it_was(self):
        listener = Listener(CODE, 1)
        listener.hear(0, 3)
        told = listener.row()
        listener.hear(1, 5)
        listener.forget(0)
        self.assertEqual(told, [3, None, None, None])

    def test_two_listeners_do_not_touch_each_other(self):
        first, second = Listener(CODE, 0), Listener(CODE, 2)
        first.hear(0, 3)
        first.hear(1, 5)
        self.assertEqual(second.row(), [None] * 4)
        self.assert_refused(NothingLeft, second, second.back)
        second.hear(0, 6)
        second.back()
        self.assert_refused(NothingLeft, first, first.again)
        self.assertEqual(first.row(), [3, 5, None, None])
        self.assertEqual(first.can_be(), [(3, 2)])
        self.assertIsNone(second.can_be())
        self.assertEqual(CODE, (7, 2, (0, 1, 3, 5)))


class Refusals(Told):
    no_places = (-1, -4, -5, -300, -HUGE, 4, 5, 7, 300, HUGE)
    no_numbers = (-1, -7, -HUGE, 7, 8, 300, HUGE)

    def test_a_number_of_no_place(self):
        listener = Listener(CODE, 1)
        listener.hear(3, 4)
        for number in self.no_places:
            for entry in (0, 6) + self.no_numbers:
                self.assert_refused(NoPlace, listener, lambda: listener.hear(number, entry))
            self.assert_refused(NoPlace, listener, lambda: listener.forget(number))
            self.assert_refused(NoPlace, listener, lambda: listener.sure(number))

    def test_no_number(self):
        listener = Listener(CODE, 1)
        for entry in self.no_numbers:
            self.assert_refused(NoNumber, listener, lambda: listener.hear(0, entry))
        listener.hear(0, 0)
        # Where it is heard already too, this goes first.
        for entry in self.no_numbers:
            self.assert_refused(NoNumber, listener, lambda: listener.hear(0, entry))

    def test_heard_and_not_heard(self):
        listener = Listener(CODE, 1)
        for number in range(4):
            self.assert_refused(NotHeard, listener, lambda: listener.forget(number))
            listener.hear(number, 0)
            for entry in (0, 3, 6):
                self.assert_refused(Heard, listener, lambda: listener.hear(number, entry))
            listener.forget(number)
            self.assert_refused(NotHeard, listener, lambda: listener.forget(number))
            listener.hear(number, 6)
        self.assertEqual(listener.row(), [6] * 4)

    def test_what_is_refused_is_no_deed(self):
        listener = Listener(CODE, 1)
        listener.hear(0, 3)
        listener.hear(1, 5)
        listener.back()
        asks = [
            (NoPlace, lambda: listener.hear(4, 0)), (NoNumber, lambda: listener.hear(1, 7)),
            (Heard, lambda: listener.hear(0, 1)), (NoPlace, lambda: listener.forget(-1)),
            (NotHeard, lambda: listener.forget(1)), (NoPlace, lambda: listener.sure(9)),
        ]
        for refusal, ask in asks:
            self.assert_refused(refusal, listener, ask)
        # What was taken back can still be done again, and nothing else is taken back.
        listener.again()
        self.assertEqual(listener.row(), [3, 5, None, None])
        self.assert_refused(NothingLeft, listener, listener.again)
        for refusal, ask in asks[:4]:
            self.assert_refused(refusal, listener, ask)
        listener.back()
        listener.back()
        self.assertEqual(listener.row(), [None] * 4)
        self.assert_refused(NothingLeft, listener, listener.back)


class BackAndAgain(Told):
    def test_nothing_left_at_first(self):
        listener = Listener(CODE, 1)
        self.assert_refused(NothingLeft, listener, listener.back)
        self.assert_refused(NothingLeft, listener, listener.again)

    def test_by_hand(self):
        listener = Listener(CODE, 0)
        listener.hear(0, 3)
        listener.hear(1, 5)
        listener.forget(0)
        self.assertIsNone(listener.back())
        self.assertEqual(listener.row(), [3, 5, None, None])
        self.assertEqual(listener.sure(3), 6)
        listener.back()
        self.assertEqual(listener.row(), [3, None, None, None])
        self.assertIsNone(listener.again())
        listener.again()
        self.assertEqual(listener.row(), [None, 5, None, None])
        self.assert_refused(NothingLeft, listener, listener.again)
        listener.back()
        # Behind a new deed none can be done again.
        listener.hear(2, 2)
        self.assert_refused(NothingLeft, listener, listener.again)
        listener.back()
        self.assertEqual(listener.row(), [3, 5, None, None])
        listener.again()
        self.assertEqual(listener.row(), [3, 5, 2, None])

    def test_a_place_heard_and_forgotten_often(self):
        listener = Listener(CODE, 0)
        for entry in (1, 4, 1):
            listener.hear(2, entry)
            listener.forget(2)
        for entry in (1, None, 4, None, 1, None):
            listener.back()
            self.assertEqual(listener.row()[2], entry)
        self.assert_refused(NothingLeft, listener, listener.back)
        for entry in (1, None, 4, None, 1, None):
            listener.again()
            self.assertEqual(listener.row()[2], entry)
        self.assert_refused(NothingLeft, listener, listener.again)

    def test_long_rows_of_deeds(self):
        source = seeded(122)
        for code in [(5, 1, (3,)), CODE, (5, 3, (2, 0, 4, 1, 3)), (11, 2, (10, 0, 5, 7, 3, 1, 2, 8))]:
            for slips in (0, 1, 2):
                listener, apart = Listener(code, slips), Apart(code)
                for step in range(150):
                    self.do_some(source, listener, apart, code)
                    self.assertEqual(listener.row(), apart.row())
                    if step % 5 == 0:
                        self.assert_told(listener, code, slips, apart.row(), plain_near)

    def test_to_the_beginning_and_the_end(self):
        source = seeded(123)
        for code in [CODE, (97, 5, tuple(range(20, 36)))]:
            listener, apart = Listener(code, 2), Apart(code)
            for step in range(300):
                self.do_some(source, listener, apart, code)
            while apart.at > 0:
                listener.back()
                apart.at -= 1
                self.assertEqual(listener.row(), apart.row())
            self.assert_refused(NothingLeft, listener, listener.back)
            self.assertEqual(listener.row(), [None] * len(code[2]))
            while apart.at < len(apart.rows) - 1:
                listener.again()
                apart.at += 1
                self.assertEqual(listener.row(), apart.row())
            self.assert_refused(NothingLeft, listener, listener.again)

    def test_however_it_was_come_to(self):
        source = seeded(124)
        code = (13, 2, tuple(range(9)))
        values = slipped_row(source, code, (5, 8), 2)
        straight = Listener(code, 2)
        for number in range(9):
            straight.hear(number, values[number])
        winding, apart = Listener(code, 2), Apart(code)
        for step in range(80):
            self.do_some(source, winding, apart, code)
        for number in range(9):
            if winding.row()[number] is not None:
                winding.forget(number)
            winding.hear(number, values[number])
        self.assertEqual(winding.row(), straight.row())
        self.assertEqual(winding.can_be(), straight.can_be())
        self.assertIn((5, 8), winding.can_be())


if __name__ == "__main__":
    unittest.main()
