"""Rows of a code, and the places of a row that a polynomial fits."""

from slipcurve.codes import is_number, value_at


def is_row(code, thing):
    """Tell whether a thing is a row of a code: a list, each entry a number or None."""
    p, k, places = code
    if not isinstance(thing, list) or len(thing) != len(places):
        return False
    return all([entry is None or is_number(p, entry) for entry in thing])


def heard_points(code, row):
    """Tell the points (place, entry) of a row at which something is heard."""
    p, k, places = code
    return [(place, entry) for place, entry in zip(places, row) if entry is not None]


def fits(code, row, polynomial):
    """Tell the numbers of the places that a polynomial fits, rising."""
    p, k, places = code
    # No value is None, so a place at which nothing is heard is never fitted.
    return [
        at for at, (place, entry) in enumerate(zip(places, row))
        if entry == value_at(p, polynomial, place)
    ]
