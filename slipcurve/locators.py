"""Locators of a row, and the polynomial that they tell where at most half has slipped."""

from slipcurve.codes import through, value_at
from slipcurve.relations import first_sum
from slipcurve.rows import fits, heard_points


def locator_terms(k, many):
    """Tell the terms of right (i, 0) and of left (i, 1), those that a smaller e lets go first."""
    # The lone term of left leads: where less than k places are heard, terms of right alone would do.
    terms = [(0, 1)] + [(i, 0) for i in range(k)]
    for e in range(1, many):
        terms += [(e, 1), (k + e - 1, 0)]
    return terms[:many]


def locator_of(code, row):
    """Tell a locator (e, left, right) of a row with the least e."""
    p, k, places = code
    points = [(place, entry, 1) for place, entry in heard_points(code, row)]
    # One more term than there are points: some sum of them is 0 at all points.
    found = first_sum(p, locator_terms(k, len(points) + 1), points)
    e = max([i if j == 1 else i - k + 1 for i, j in found])
    # The sum is right less left times y, so the numbers of left have the other sign.
    left = tuple([-found.get((i, 1), 0) % p for i in range(e + 1)])
    right = tuple([found.get((i, 0), 0) for i in range(k + e)])
    return (e, left, right)


def half(code, row):
    """Tell the polynomial that fits so many places that twice as many are at least heard ones and k."""
    p, k, places = code
    points = heard_points(code, row)
    e, left, right = locator_of(code, row)
    # If there is one then right is left times it, so the entry is its value wherever left is not 0.
    right_points = [(x, y) for x, y in points if value_at(p, left, x) != 0]
    if len(right_points) < k:
        return None
    polynomial = through(p, right_points[:k])
    if 2 * len(fits(code, row, polynomial)) < len(points) + k:
        return None
    return polynomial
