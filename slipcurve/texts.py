"""Codes, rows and polynomials as texts, and the codes that texts write."""

from slipcurve.codes import is_code
from slipcurve.errors import NoText

MOST_FIGURES = 4


def code_text(code):
    """Tell a code as a text: p, k, a colon, and its places."""
    p, k, places = code
    return f"{p} {k} : {row_text(places)}"


def row_text(row):
    """Tell a row as a text: its entries, - for None."""
    return " ".join(["-" if entry is None else str(entry) for entry in row])


def polynomial_text(polynomial):
    """Tell a polynomial as a text: its numbers, commas between."""
    return ",".join([str(number) for number in polynomial])


def is_written(word):
    """Tell whether a word writes a number of at most four figures, without a nought ahead."""
    # The length goes first: a greater number is never needed, and Python refuses to read very long ones.
    if len(word) > MOST_FIGURES or not word.isascii() or not word.isdigit():
        return False
    return word == "0" or word[0] != "0"


def read_code(text):
    """Tell the code that a text writes."""
    if not isinstance(text, str):
        raise NoText("no text")
    words = text.split(" ")
    numbers = words[:2] + words[3:]
    if words[2:3] != [":"] or not all([is_written(word) for word in numbers]):
        raise NoText("not written as a code is")
    p, k, *places = [int(word) for word in numbers]
    code = (p, k, tuple(places))
    if not is_code(code):
        raise NoText("what is written is no code")
    return code
