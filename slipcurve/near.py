"""All polynomials of a code that fit a row in so many places, and the nearest ones."""

from slipcurve.codes import through
from slipcurve.errors import TooFew
from slipcurve.rows import fits, heard_points


def choices(things, many):
    """Tell all choices of so many things as lists, each in the order of the things."""
    chosen = [(0, [])]
    for step in range(many):
        chosen = [
            (at + 1, picked + [things[at]])
            for start, picked in chosen
            for at in range(start, len(things))
        ]
    return [picked for start, picked in chosen]


def all_through(code, points):
    """Tell each polynomial of a code that goes through k of the points once, rising."""
    p, k, places = code
    found = {}
    for picked in choices(points, k):
        found[through(p, picked)] = True
    return sorted(found)


def all_near(code, row, t):
    """Tell all polynomials of a code that fit a row in t places at least, rising."""
    k = code[1]
    if t < k:
        raise TooFew("fewer places than the polynomials have numbers")
    points = heard_points(code, row)
    if t > len(points):
        return []
    # Who fits t points misses so few that k of these first ones are fitted, and k points tell it.
    first = points[:len(points) - t + k]
    return [
        polynomial for polynomial in all_through(code, first)
        if len(fits(code, row, polynomial)) >= t
    ]


def nearest(code, row):
    """Tell the most places that a polynomial of a code fits, and all that fit so many."""
    k = code[1]
    points = heard_points(code, row)
    if len(points) < k:
        raise TooFew("fewer places are heard than the polynomials have numbers")
    # The polynomial through any k heard places fits them, so the nearest are among these.
    counted = [
        (len(fits(code, row, polynomial)), polynomial)
        for polynomial in all_through(code, points)
    ]
    most = max([many for many, polynomial in counted])
    return (most, [polynomial for many, polynomial in counted if many == most])
