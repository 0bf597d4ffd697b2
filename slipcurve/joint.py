"""Rows that slip together: the lists of polynomials that fit them in the same places, and their locators."""

from slipcurve.codes import through, value_at
from slipcurve.near import all_near
from slipcurve.relations import first_relation
from slipcurve.rows import fits, heard_points


def heard_at(row, numbers):
    """Tell a row that is heard at these numbers of places alone."""
    return [entry if at in numbers else None for at, entry in enumerate(row)]


def joint_near(code, rows, t):
    """Tell all tuples of a polynomial for each row that fit t places together at least, rising."""
    # With each start of such a tuple goes where all of it fits: the next one must fit t of these.
    starts = [((), list(range(len(code[2]))))]
    for row in rows:
        longer = []
        for known, numbers in starts:
            heard = heard_at(row, numbers)
            for polynomial in all_near(code, heard, t):
                longer.append((known + (polynomial,), fits(code, heard, polynomial)))
        starts = longer
    return [known for known, numbers in starts]


def times_entries(p, left, points):
    """Tell the polynomial through the points, each entry multiplied by the value of left there."""
    return through(p, [(x, value_at(p, left, x) * y) for x, y in points])


def beyond(rights, many):
    """Tell in one list the numbers that each of the rights has beyond its first so many."""
    return [number for right in rights for number in right[many:]]


def sized(polynomial, many):
    """Tell a polynomial with just so many numbers; those that are cut off must be 0."""
    return (polynomial + (0,) * many)[:many]


def joint_locator(code, rows):
    """Tell a locator (e, left, rights) of rows together with the least e."""
    p, k, places = code
    parts = [heard_points(code, row) for row in rows]
    e = -1
    # For each power of x that left may have: the rights that it alone would need.
    needed = []
    relation = None
    # At the last there is nothing beyond k + e numbers, and each left will do.
    while relation is None:
        e += 1
        power = (0,) * e + (1,)
        needed.append([times_entries(p, power, points) for points in parts])
        relation = first_relation(p, [beyond(rights, k + e) for rights in needed])
    left = sized(tuple(relation), e + 1)
    return (e, left, [sized(times_entries(p, left, points), k + e) for points in parts])
