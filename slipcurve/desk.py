"""A desk is told rows of words, and answers with texts."""

from slipcurve.curves import check_curves
from slipcurve.errors import NoNumber, NoRow, TooFew
from slipcurve.listeners import Listener
from slipcurve.locators import half
from slipcurve.near import all_near
from slipcurve.reaches import weight_for
from slipcurve.rows import heard_points
from slipcurve.texts import is_written, polynomial_text, read_code, row_text

FIRST_CODE = (7, 2, (0, 1, 2, 3, 4, 5, 6))
FIRST_SLIPS = 1
MOST_SLIPS = 8


def listed(polynomials):
    """Tell polynomials as a text, or none."""
    return " ".join([polynomial_text(polynomial) for polynomial in polynomials]) if polynomials else "none"


def do_slips(desk, numbers):
    """Begin anew with so many slips."""
    if numbers[0] > MOST_SLIPS:
        raise NoNumber("more slips than a listener may have")
    desk.listener = Listener(desk.listener.code, numbers[0])
    return "ok"


def do_hear(desk, numbers):
    """Let the listener hear an entry at a place."""
    desk.listener.hear(numbers[0], numbers[1])
    return "ok"


def do_forget(desk, numbers):
    """Let the listener forget a place."""
    desk.listener.forget(numbers[0])
    return "ok"


def do_back(desk, numbers):
    """Take back the listener's last deed."""
    desk.listener.back()
    return "ok"


def do_again(desk, numbers):
    """Do again what was taken back last."""
    desk.listener.again()
    return "ok"


def tell_row(desk, numbers):
    """Tell the row that is heard."""
    return row_text(desk.listener.row())


def tell_can(desk, numbers):
    """Tell what can be, or that it is too early for it."""
    polynomials = desk.listener.can_be()
    return "early" if polynomials is None else listed(polynomials)


def tell_sure(desk, numbers):
    """Tell what is sure at a place, as an entry of a row."""
    return row_text([desk.listener.sure(numbers[0])])


def tell_near(desk, numbers):
    """Tell all that fit the row in so many places."""
    return listed(all_near(desk.listener.code, desk.listener.row(), numbers[0]))


def tell_half(desk, numbers):
    """Tell the half of the row."""
    polynomial = half(desk.listener.code, desk.listener.row())
    return "none" if polynomial is None else polynomial_text(polynomial)


def tell_reach(desk, numbers):
    """Tell the least weight that reaches so many of the heard places."""
    code = desk.listener.code
    heard = len(heard_points(code, desk.listener.row()))
    if heard == 0:
        raise TooFew("nothing is heard")
    check_curves(code[1])
    weight = weight_for(heard, code[1], numbers[0])
    return "none" if weight is None else str(weight)


# By the first word of a row and how many numbers stand behind it.
ANSWERS = {
    ("slips", 1): do_slips,
    ("hear", 2): do_hear,
    ("forget", 1): do_forget,
    ("back", 0): do_back,
    ("again", 0): do_again,
    ("row", 0): tell_row,
    ("can", 0): tell_can,
    ("sure", 1): tell_sure,
    ("near", 1): tell_near,
    ("half", 0): tell_half,
    ("reach", 1): tell_reach,
}


class Desk:
    """A code and a listener of it, told what to do and asked by rows of words."""

    def __init__(self):
        self.listener = Listener(FIRST_CODE, FIRST_SLIPS)

    def say(self, row):
        """Tell the answer to a row of words."""
        if not isinstance(row, str):
            raise NoRow("no text")
        word, blank, rest = row.partition(" ")
        # A code holds a colon, so it is not read as numbers are.
        if word == "code" and blank == " ":
            self.listener = Listener(read_code(rest), self.listener.slips)
            return "ok"
        words = rest.split(" ") if blank == " " else []
        asked = (word, len(words))
        if asked not in ANSWERS or not all([is_written(one) for one in words]):
            raise NoRow("none of the rows that a desk is told")
        answer = ANSWERS[asked]
        return answer(self, [int(one) for one in words])
