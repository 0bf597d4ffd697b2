"""A listener hears a row value by value, takes back and hears again, and tells what can still be."""

from slipcurve.codes import is_number, value_at
from slipcurve.errors import Heard, NoNumber, NoPlace, NotHeard, NothingLeft
from slipcurve.near import all_near
from slipcurve.rows import heard_points


class Listener:
    """What is heard at the places of a code, of which so many may have slipped."""

    def __init__(self, code, slips):
        self.code = code
        self.slips = slips
        self.entries = [None] * len(code[2])
        # A deed is (number, entry before it, entry behind it); the last one stands last.
        self.deeds = []
        self.undone = []

    def check_place(self, number):
        """Refuse a number of no place."""
        if not is_number(len(self.entries), number):
            raise NoPlace("a number of no place")

    def change(self, number, entry):
        """Do a new deed; what was taken back before it can not be done again."""
        self.deeds.append((number, self.entries[number], entry))
        self.undone = []
        self.entries[number] = entry

    def hear(self, number, entry):
        """Hear an entry at a place at which nothing is heard."""
        self.check_place(number)
        if not is_number(self.code[0], entry):
            raise NoNumber("no number of the code")
        if self.entries[number] is not None:
            raise Heard("the place is heard already")
        self.change(number, entry)

    def forget(self, number):
        """Forget what is heard at a place."""
        self.check_place(number)
        if self.entries[number] is None:
            raise NotHeard("nothing is heard at the place")
        self.change(number, None)

    def back(self):
        """Take back the last deed that is not taken back."""
        if not self.deeds:
            raise NothingLeft("there is nothing to take back")
        number, before, behind = self.deeds.pop()
        self.entries[number] = before
        self.undone.append((number, before, behind))

    def again(self):
        """Do again what was taken back last."""
        if not self.undone:
            raise NothingLeft("there is nothing to do again")
        number, before, behind = self.undone.pop()
        self.entries[number] = behind
        self.deeds.append((number, before, behind))

    def row(self):
        """Tell the row as it is heard."""
        return list(self.entries)

    def can_be(self):
        """Tell all polynomials that fit what is heard but for the slips, or None where too little is heard."""
        heard = len(heard_points(self.code, self.entries))
        if heard < self.code[1] + self.slips:
            return None
        return all_near(self.code, self.entries, heard - self.slips)

    def sure(self, number):
        """Tell the value that all that can be have at a place, or None."""
        self.check_place(number)
        p, k, places = self.code
        values = sorted({value_at(p, polynomial, places[number]) for polynomial in self.can_be() or []})
        return values[0] if len(values) == 1 else None
