import unittest

from plain import PRIMES, seeded, small_codes, some_polynomial, some_row, some_things
from slipcurve.codes import is_code
from slipcurve.errors import NoText, SlipError
from slipcurve.texts import code_text, polynomial_text, read_code, row_text

WRITTEN = "7 2 : 0 1 3 5"
# All signs that a text may have: from the blank to ~ but the percent sign, and line ends.
SIGNS = [chr(at) for at in range(32, 127) if at != 37] + ["\n"]


def plain_code_text(code):
    p, k, places = code
    return str(p) + " " + str(k) + " :" + "".join(" " + str(place) for place in places)


def drawn_codes(source):
    for p in PRIMES:
        for k in range(1, 6):
            yield (p, k, tuple(source.sample(range(p), source.randint(k, min(p, 16)))))


class Written(unittest.TestCase):
    def test_by_hand(self):
        self.assertEqual(code_text((7, 2, (0, 1, 3, 5))), WRITTEN)
        self.assertEqual(code_text((97, 1, (96,))), "97 1 : 96")
        self.assertEqual(row_text([3, None, 0, 12]), "3 - 0 12")
        self.assertEqual(row_text([None]), "-")
        self.assertEqual(row_text([0]), "0")
        self.assertEqual(polynomial_text((3, 2)), "3,2")
        self.assertEqual(polynomial_text((0,)), "0")
        self.assertEqual(polynomial_text((10, 0, 96, 5, 0)), "10,0,96,5,0")

    def test_drawn_ones(self):
        source = seeded(130)
        for code in drawn_codes(source):
            self.assertEqual(code_text(code), plain_code_text(code))
            self.assertIs(type(code_text(code)), str)
            row = some_row(source, code, source.choice((0, 3, 10)))
            before = list(row)
            told = row_text(row)
            self.assertIs(type(told), str)
            self.assertEqual([None if word == "-" else int(word) for word in told.split(" ")], before)
            self.assertEqual(row, before)
            f = some_polynomial(source, code[0], code[1])
            told = polynomial_text(f)
            self.assertIs(type(told), str)
            self.assertEqual(tuple(int(word) for word in told.split(",")), f)
            self.assertNotIn(" ", told)


class Read(unittest.TestCase):
    def assert_no_text(self, thing):
        with self.assertRaises(NoText):
            read_code(thing)

    def test_what_is_written_is_read(self):
        source = seeded(131)
        for code in list(drawn_codes(source)) + small_codes():
            told = read_code(code_text(code))
            self.assertEqual(told, code)
            self.assertTrue(is_code(told))
            self.assertIs(type(told), tuple)
            self.assertIs(type(told[2]), tuple)
            self.assertEqual({type(number) for number in told[:2] + told[2]}, {int})

    def test_what_is_no_text(self):
        self.assertTrue(issubclass(NoText, SlipError))
        self.assert_no_text((7, 2, (0, 1, 3, 5)))
        self.assert_no_text([WRITTEN])
        self.assert_no_text(WRITTEN.encode())
        for thing in some_things():
            if thing != WRITTEN:
                self.assert_no_text(thing)

    def test_spoilt_texts(self):
        for text in [
            "", " ", ":", "7", "7 2", "7 2 :", "7 2 : ", "7 : 0 1", ": 0 1", "7 2 0 1 3 5", "7 2 : : 0 1", "7 : 2 : 0 1",
            "7 2 : 0 : 1", "7 2 :0 1", "7 2: 0 1", "7 2:0 1", "72 : 0 1", "7 2 3 : 0 1", "7 2 ; 0 1", "7 2 :: 0 1",
            " 7 2 : 0 1", "7 2 : 0 1 ", "\n7 2 : 0 1", "7 2 : 0 1\n", "7 2 : 0\n1", "7\n2 : 0 1", "7 2 :\n0 1",
            "7  2 : 0 1", "7 2  : 0 1", "7 2 :  0 1", "7 2 : 0  1", "7 2 :\t0 1",
            "07 2 : 0 1", "7 02 : 0 1", "7 2 : 00 1", "7 2 : 0 01", "007 2 : 0 1", "7 2 : 000 1", "-0 2 : 0 1",
            "+7 2 : 0 1", "7 +2 : 0 1", "7 2 : +0 1", "7 2 : 0 -1", "-7 2 : 0 1", "7 -2 : 0 1", "7 2 : - 1", "7 2 : 0 -",
            "7,2 : 0 1", "7 2 : 0,1", "7 2 : 0, 1", "7 2 , 0 1", "7 2 : 0 1.", "7.0 2 : 0 1", "7 2 : 0 1e0", "7 2 : 0 0x1",
            "7 2 : 0 1_0", "seven 2 : 0 1", "(7, 2, (0, 1))", "code 7 2 : 0 1", "7 2 : 0 a",
        ]:
            self.assert_no_text(text)

    def test_what_is_written_is_no_code(self):
        for text in [
            "6 2 : 0 1", "9 2 : 0 1", "91 2 : 0 1", "1 1 : 0", "0 1 : 0", "2 1 : 0", "3 1 : 0", "4 1 : 0", "101 2 : 0 1",
            "103 2 : 0 1", "98 2 : 0 1", "997 2 : 0 1", "7 0 : 0 1", "7 6 : 0 1 2 3 4 5 6", "7 10 : 0 1", "7 2 : 0 7",
            "7 2 : 8 1", "97 2 : 96 97", "7 2 : 0 0", "7 2 : 0 1 3 1", "7 2 : 0", "7 5 : 0 1 2 3",
            "97 2 : 0 1 2 3 4 5 6 7 8 9 10 11 12 13 14 15 16", "7 2 : 100 1", "5 1 : 5",
        ]:
            self.assert_no_text(text)
        self.assertEqual(read_code("97 2 : " + " ".join(map(str, range(16)))), (97, 2, tuple(range(16))))
        self.assertEqual(read_code("5 5 : 4 3 2 1 0"), (5, 5, (4, 3, 2, 1, 0)))

    def test_every_p_and_k(self):
        for p in range(0, 130):
            for k in range(0, 8):
                text = f"{p} {k} : 0 1 2 3 4"
                if p in PRIMES and 1 <= k <= 5:
                    self.assertEqual(read_code(text), (p, k, (0, 1, 2, 3, 4)))
                else:
                    self.assert_no_text(text)

    def assert_as_written_or_refused(self, text):
        """Whatever is read is just what that code is written as."""
        try:
            code = read_code(text)
        except NoText:
            return False
        self.assertTrue(is_code(code), text)
        self.assertEqual(plain_code_text(code), text)
        return True

    def test_spoilt_at_any_place(self):
        read = 0
        for written in (WRITTEN, "97 1 : 96", "13 3 : 12 0 10 1"):
            for at in range(len(written) + 1):
                for sign in SIGNS:
                    read += self.assert_as_written_or_refused(written[:at] + sign + written[at:])
                    read += self.assert_as_written_or_refused(written[:at] + sign + written[at + 1:])
                self.assert_as_written_or_refused(written[:at] + written[at + 1:])
                self.assert_as_written_or_refused(written[:at])
                self.assert_as_written_or_refused(written[at:])
        # Some spoilt ones write another code.
        self.assertGreater(read, 20)

    def test_drawn_texts(self):
        source = seeded(132)
        odd = ["", "00", "-", "\n", ":", "07", "1,2", "100"]
        read = 0
        for trial in range(4000):
            words = source.choices(["5", "7", "11", "9", "97"], k=1) + source.choices(["1", "2", "5", "6"], k=1) + [":"]
            words += [str(source.randrange(12)) for place in range(source.randint(1, 5))]
            if source.randrange(3) == 0:
                words[source.randrange(len(words))] = source.choice(odd)
            read += self.assert_as_written_or_refused(" ".join(words))
        self.assertGreater(read, 300)
        self.assertLess(read, 3000)

    def test_long_texts(self):
        for text in [
            "7 2 : " + "0 1 " * 998, "7" * 4000, "7 2 : 0 1 " + "3" * 3990, " " * 4000, ":" * 4000, "~" * 4000,
            "0" * 3990 + "7 2 : 0 1", "9" * 4000 + " 2 : 0 1", "7 2 : " + "1" * 4500 + " 0", "7 " + "2" * 5000 + " : 0",
            " ".join(["7 2 :"] + [str(place) for place in range(1000)]), "\n" * 4000, WRITTEN + "\n" * 3980,
        ]:
            self.assert_no_text(text)

    def test_figures_of_other_scripts(self):
        self.assert_no_text("\u0667 2 : 0 1")
        self.assert_no_text("7 2 : 0 \u00b9")

    def test_the_same_answer_each_time(self):
        self.assertEqual(read_code(WRITTEN), read_code(WRITTEN))


if __name__ == "__main__":
    unittest.main()
