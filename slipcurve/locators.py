"""Locators of a row, and the polynomial that they tell where at most half has slipped."""

from slipcurve.codes import through, value_at
from slipcurve.joint import joint_locator
from slipcurve.rows import fits, heard_points


def locator_of(code, row):
    """Tell a locator (e, left, right) of a row with the least e."""
    e, left, rights = joint_locator(code, [row])
    return (e, left, rights[0])


def half(code, row):
    """Tell the polynomial that fits so many places that twice as many are at least heard ones and k."""
    p, k, places = code
    points = heard_points(code, row)
    e, left, right = locator_of(code, row)
    # If there is one then right is left times it, so the entry is its value wherever left is not 0.
    right_points = [(x, y) for x, y in points if value_at(p, left, x) != 0]
    if len(right_points) < k:
        return None
    polynomial = through(p, right_points[:k])
    if 2 * len(fits(code, row, polynomial)) < len(points) + k:
        return None
    return polynomial
