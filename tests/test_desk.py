import itertools
import unittest

from plain import (
    HUGE, heard_of, plain_near, plain_value, seeded, slipped_row, small_codes, some_polynomial, some_things,
    spanned_near,
)
from slipcurve.desk import Desk
from slipcurve.errors import (
    Heard, NoCurve, NoNumber, NoPlace, NoRow, NoText, NotHeard, NothingLeft, SlipError, TooFew,
)
from slipcurve.reaches import reach

ASKS = ["row", "can", "half"] + [f"sure {number}" for number in range(7)] + ["near 2", "near 3", "near 7"]


def written(polynomials):
    """Polynomials as a desk writes them."""
    return " ".join(",".join(str(number) for number in f) for f in polynomials) or "none"


def told_at(row, heard):
    """A new desk that has heard these entries of a row, code and all."""
    desk = Desk()
    for one in row:
        desk.say(one)
    for number, entry in enumerate(heard):
        if entry is not None:
            desk.say(f"hear {number} {entry}")
    return desk


class Told(unittest.TestCase):
    def say(self, desk, row):
        told = desk.say(row)
        self.assertIs(type(told), str)
        return told

    def state(self, desk):
        """What a desk tells of itself, as far as it is not refused."""
        told = []
        for row in ASKS:
            try:
                told.append(self.say(desk, row))
            except SlipError as refusal:
                told.append(type(refusal))
        return told

    def assert_refused(self, desk, row, refusal):
        before = self.state(desk)
        with self.assertRaises(SlipError, msg=row) as caught:
            desk.say(row)
        self.assertIs(type(caught.exception), refusal, row)
        self.assertEqual(self.state(desk), before)

    def assert_said(self, desk, pairs):
        for row, expected in pairs:
            if isinstance(expected, str):
                self.assertEqual(self.say(desk, row), expected, row)
            else:
                self.assert_refused(desk, row, expected)


class Rows(Told):
    def test_a_new_desk(self):
        self.assert_said(Desk(), [
            ("row", "- - - - - - -"), ("can", "early"), ("sure 0", "-"), ("sure 6", "-"), ("half", "none"),
            ("near 2", "none"), ("near 7", "none"), ("near 9999", "none"), ("back", NothingLeft), ("again", NothingLeft),
            ("forget 0", NotHeard), ("reach 3", TooFew), ("near 1", TooFew), ("near 0", TooFew), ("sure 7", NoPlace),
        ])

    def test_the_first_code_and_its_one_slip(self):
        desk = Desk()
        # 3 + 2 x at the places 0 to 6.
        self.assert_said(desk, [
            ("hear 0 3", "ok"), ("hear 1 5", "ok"), ("can", "early"), ("row", "3 5 - - - - -"), ("hear 2 0", "ok"),
            ("can", "3,2"), ("sure 6", "1"), ("hear 6 6", "ok"), ("can", "3,2"), ("sure 6", "1"),
            ("row", "3 5 0 - - - 6"), ("hear 6 1", Heard), ("hear 7 0", NoPlace), ("hear 3 7", NoNumber),
        ])

    def test_deeds(self):
        desk = Desk()
        self.assert_said(desk, [
            ("hear 4 6", "ok"), ("row", "- - - - 6 - -"), ("back", "ok"), ("row", "- - - - - - -"), ("back", NothingLeft),
            ("again", "ok"), ("row", "- - - - 6 - -"), ("again", NothingLeft), ("forget 4", "ok"), ("forget 4", NotHeard),
            ("row", "- - - - - - -"), ("back", "ok"), ("row", "- - - - 6 - -"), ("hear 0 0", "ok"), ("again", NothingLeft),
            ("row", "0 - - - 6 - -"), ("forget 7", NoPlace), ("forget 9999", NoPlace), ("back", "ok"), ("back", "ok"),
            ("back", NothingLeft),
        ])

    def test_refusals_of_hearing_go_in_order(self):
        desk = Desk()
        desk.say("hear 2 2")
        for number, entry in itertools.product((2, 7, 10, 9999), (3, 7, 9999)):
            expected = NoPlace if number > 6 else NoNumber if entry > 6 else Heard
            self.assert_refused(desk, f"hear {number} {entry}", expected)

    def test_a_code(self):
        desk = Desk()
        self.assert_said(desk, [
            ("hear 0 3", "ok"), ("code 11 3 : 10 0 5 7", "ok"), ("row", "- - - -"), ("back", NothingLeft),
            ("again", NothingLeft), ("hear 0 10", "ok"), ("hear 4 0", NoPlace), ("hear 1 11", NoNumber), ("can", "early"),
            ("near 2", TooFew), ("near 3", "none"), ("code 5 1 : 3", "ok"), ("row", "-"), ("hear 0 4", "ok"),
            ("can", "early"), ("near 1", "4"), ("half", "4"),
        ])

    def test_a_code_keeps_the_slips(self):
        desk = Desk()
        self.assert_said(desk, [
            ("slips 0", "ok"), ("code 11 1 : 10 0 5 7", "ok"), ("hear 0 4", "ok"), ("can", "4"), ("slips 2", "ok"),
            ("hear 0 4", "ok"), ("can", "early"), ("code 7 1 : 0 1 2", "ok"), ("hear 0 4", "ok"), ("hear 1 4", "ok"),
            ("can", "early"), ("hear 2 5", "ok"), ("can", "4 5"),
        ])

    def test_slips(self):
        desk = Desk()
        self.assert_said(desk, [
            ("hear 0 3", "ok"), ("slips 0", "ok"), ("row", "- - - - - - -"), ("back", NothingLeft), ("hear 0 3", "ok"),
            ("hear 1 5", "ok"), ("can", "3,2"), ("hear 2 1", "ok"), ("can", "none"), ("sure 0", "-"), ("slips 9", NoNumber),
            ("slips 10", NoNumber), ("slips 9999", NoNumber), ("row", "3 5 1 - - - -"), ("slips 8", "ok"),
            ("row", "- - - - - - -"), ("slips 5", "ok"),
        ])
        for number in range(7):
            self.assertEqual(desk.say("can"), "early")
            desk.say(f"hear {number} {number}")
        # With five slips seven are just enough: all that fit two places.
        self.assertIn("0,1", desk.say("can").split(" "))

    def test_what_can_be_and_is_sure(self):
        source = seeded(140)
        for code in small_codes():
            p, k, places = code
            text = f"code {p} {k} : " + " ".join(str(place) for place in places)
            for slips in (0, 1, 3, 8):
                row = slipped_row(source, code, some_polynomial(source, p, k), min(len(places) // 2, slips))
                row = [None if source.randrange(6) == 0 else entry for entry in row]
                desk = told_at([f"slips {slips}", text], row)
                heard = len(heard_of(code, row))
                can = plain_near(code, row, heard - slips) if heard >= k + slips else None
                self.assertEqual(self.say(desk, "can"), "early" if can is None else written(can))
                self.assertEqual(self.say(desk, "row"), " ".join("-" if y is None else str(y) for y in row))
                for number, place in enumerate(places):
                    values = {plain_value(p, f, place) for f in can or []}
                    expected = str(values.pop()) if len(values) == 1 else "-"
                    self.assertEqual(self.say(desk, f"sure {number}"), expected)
                self.assert_refused(desk, f"sure {len(places)}", NoPlace)

    def test_near_and_half(self):
        source = seeded(141)
        for code in small_codes() + [(97, 3, tuple(range(30, 46)))]:
            p, k, places = code
            near = plain_near if p < 97 else spanned_near
            for slips in range(0, len(places), 3):
                row = slipped_row(source, code, some_polynomial(source, p, k), slips)
                row = [None if source.randrange(8) == 0 else entry for entry in row]
                desk = told_at([f"code {p} {k} : " + " ".join(str(place) for place in places)], row)
                for t in range(k, len(places) + 2):
                    self.assertEqual(self.say(desk, f"near {t}"), written(near(code, row, t)))
                for t in range(k):
                    self.assert_refused(desk, f"near {t}", TooFew)
                self.assertEqual(self.say(desk, "near 9999"), "none")
                middling = max(k, (len(heard_of(code, row)) + k + 1) // 2)
                self.assertEqual(self.say(desk, "half"), written(near(code, row, middling)))

    def test_reach(self):
        for k in (2, 3, 4, 5):
            desk = Desk()
            desk.say(f"code 97 {k} : " + " ".join(str(place) for place in range(16)))
            for t in (0, 1, 5, 9999):
                self.assert_refused(desk, f"reach {t}", TooFew)
            for heard in range(1, 17):
                desk.say(f"hear {heard - 1} 96")
                for t in list(range(0, 18)) + [9999]:
                    weights = [m for m in range(1, 61) if reach(heard, k, m) <= t]
                    self.assertEqual(self.say(desk, f"reach {t}"), str(weights[0]) if weights else "none")
            desk.say("forget 3")
            self.assertEqual(self.say(desk, "reach 16"), "1")

    def test_reach_with_k_1(self):
        desk = Desk()
        desk.say("code 7 1 : 6 2 4")
        for t in (0, 1, 3, 9999):
            self.assert_refused(desk, f"reach {t}", TooFew)
        desk.say("hear 1 3")
        for t in (0, 1, 3, 9999):
            self.assert_refused(desk, f"reach {t}", NoCurve)
        desk.say("back")
        self.assert_refused(desk, "reach 1", TooFew)

    def test_the_largest_codes(self):
        source = seeded(142)
        for k in range(1, 6):
            code = (97, k, tuple(source.sample(range(97), 16)))
            f = some_polynomial(source, 97, k)
            row = slipped_row(source, code, f, 5)
            text = f"code 97 {k} : " + " ".join(str(place) for place in code[2])
            desk = told_at([text, "slips 5"], row)
            self.assertEqual(self.say(desk, "can"), written(spanned_near(code, row, 11)))
            self.assertEqual(self.say(desk, "half"), written([f]))
            self.assertEqual(self.say(desk, "near 11"), written([f]))
            for number, place in enumerate(code[2]):
                self.assertEqual(self.say(desk, f"sure {number}"), str(plain_value(97, f, place)))

    def test_two_desks_do_not_touch_each_other(self):
        first, second = Desk(), Desk()
        first.say("hear 0 3")
        second.say("slips 0")
        second.say("code 5 1 : 3")
        self.assertEqual(first.say("row"), "3 - - - - - -")
        self.assertEqual(second.say("row"), "-")
        self.assert_refused(second, "back", NothingLeft)
        self.assertEqual(Desk().say("row"), "- - - - - - -")
        first.say("hear 1 5")
        self.assertEqual(first.say("can"), "early")


class NoRows(Told):
    no_rows = [
        "", " ", "\n", "code", "code\n7 2 : 0 1", "Code 7 2 : 0 1", "codes 7 2 : 0 1", " code 7 2 : 0 1", "slips", "slips ",
        "slips 1 ", "slips 1 2", "slips 01", "slips +1", "slips -1", "slips -", "slips 10000", "slips 00000", "slips  1",
        "hear", "hear 0", "hear 0 ", "hear 0 1 2", "hear  0 1", "hear 0  1", "hear 0 1 ", " hear 0 1", "hear 0 1\n",
        "hear 00 1", "hear 0 01", "hear 0 00", "hear -1 0", "hear 0 -1", "hear 0 -", "hear +0 1", "hear 0 +1", "hear 10000 0",
        "hear 0 10000", "hear a 0", "hear 0 a", "hear 0,1", "hear 0\n1", "hear 0 1.0", "hear 0x1 1", "hear 1_0 1",
        "forget", "forget ", "forget 0 0", "forget 00", "forget 12345", "forget -1", "forget 0 ", "back ", " back", "back 1",
        "back\n", "backs", "Back", "BACK", "again ", "again 1", "row ", "row 0", " row", "rows", "row\n", "ROW", "can ", "can 0",
        "can_be", "sure", "sure ", "sure 0 0", "sure 00", "sure -1", "sure 99999", "sure x", "near", "near ", "near 2 2",
        "near -1", "near 02", "near 10000", "near +2", "half ", "half 0", "reach", "reach ", "reach 1 1", "reach -1", "reach 01",
        "reach 10000", "nothing", "ok", "none", "say", "7 2 : 0 1", "0", "-", ":", "~", "hear 0 3 hear 1 5", "row can",
        "hear 0 3\nhear 1 5", "quit", "listener", "__init__",
    ]

    def test_rows_that_are_none(self):
        for desk in (Desk(), told_at([], [3, 5, 0, None, 4, None, None])):
            for row in self.no_rows:
                self.assert_refused(desk, row, NoRow)

    def test_ahead_of_all_other_refusals(self):
        # Each would be refused by itself, were it a row.
        desk = Desk()
        for row in ["hear 7 7 7", "forget 00", "slips 10000", "near 00", "sure 7 ", "back back", "reach 0 0", "hear 99999 7"]:
            self.assert_refused(desk, row, NoRow)

    def test_what_is_no_text(self):
        desk = told_at([], [3, 5, 0])
        for thing in some_things() + [b"row", ["row"], ("row",), HUGE, 10 ** 39]:
            if not isinstance(thing, str):
                self.assert_refused(desk, thing, NoRow)

    def test_long_rows(self):
        desk = Desk()
        for row in [
            "row" * 1333, "hear " + "0" * 3990, "hear 0 " + "1" * 3990, "near " + "9" * 3995, " " * 4000, "hear " + "0 " * 1990,
            "sure " + "9" * 5000,
        ]:
            self.assert_refused(desk, row, NoRow)
        self.assert_refused(desk, "code " + "7" * 3995, NoText)
        self.assert_refused(desk, "code 7 2 : " + "0 1 " * 990, NoText)

    def test_figures_of_other_scripts(self):
        for row in ["sure \u0663", "sure \u00b2"]:
            self.assert_refused(Desk(), row, NoRow)

    def test_a_code_that_is_none(self):
        desk = told_at([], [3, 5, 0, None, 4])
        for text in [
            "", " ", "7", "7 2", "7 2 :", "7 2 : 0", "6 2 : 0 1", "7 2 : 0 0", "7 2 : 0 7", "7 0 : 0 1", "7 6 : 0 1 2 3 4 5 6",
            "7 2 : 0 1 ", " 7 2 : 0 1", "7 2 : 0 1\n", "07 2 : 0 1", "7  2 : 0 1", "7 2 : 0 -1", "7,2 : 0 1", "7 2 : 0 01",
            "101 2 : 0 1", "row", "code 7 2 : 0 1", "7 2 0 1", "70000 2 : 0 1", "~" * 3000,
        ]:
            self.assert_refused(desk, "code " + text, NoText)
        # The code and what is heard stay.
        self.assert_said(desk, [("row", "3 5 0 - 4 - -"), ("can", "3,2"), ("code 7 2 : 0 1", "ok"), ("row", "- -")])

    def test_spoilt_rows(self):
        good = {
            "slips 3", "hear 0 3", "forget 0", "back", "again", "row", "can", "sure 6", "near 3", "half", "reach 3",
        }
        for row in sorted(good):
            for at in range(len(row) + 1):
                for sign in [" ", "\n", "-", ",", ":", "a", "~", "+", "_"]:
                    self.assert_refused(Desk(), row[:at] + sign + row[at:], NoRow)

    def test_what_is_refused_is_no_deed(self):
        desk = Desk()
        desk.say("hear 0 3")
        desk.say("hear 1 5")
        desk.say("back")
        for row, refusal in [
            ("hear 7 0", NoPlace), ("hear 1 7", NoNumber), ("hear 0 1", Heard), ("forget 5", NotHeard), ("slips 9", NoNumber),
            ("code 7", NoText), ("near 1", TooFew), ("nothing", NoRow),
        ]:
            self.assert_refused(desk, row, refusal)
        self.assert_said(desk, [("again", "ok"), ("row", "3 5 - - - - -"), ("again", NothingLeft), ("back", "ok"), ("back", "ok"),
                                ("back", NothingLeft)])


class Long(Told):
    def test_long_talks(self):
        """Drawn rows, all told twice: to two desks, which answer alike, and a third one is left alone."""
        source = seeded(143)
        first, second, third = Desk(), Desk(), Desk()
        rows = ASKS + ["back", "again", "back", "slips 0", "slips 2", "code 5 2 : 0 1 2 3 4", "code 11 1 : 3 5 7", "reach 3", "x"]
        for step in range(600):
            row = source.choice(rows)
            if source.randrange(2):
                row = source.choice((
                    f"hear {source.randrange(8)} {source.randrange(8)}", f"forget {source.randrange(8)}"))
            answers = []
            for desk in (first, second):
                try:
                    answers.append(self.say(desk, row))
                except SlipError as refusal:
                    answers.append(type(refusal))
            self.assertEqual(answers[0], answers[1], row)
        self.assertEqual(self.state(third), self.state(Desk()))


if __name__ == "__main__":
    unittest.main()
