"""Curves: their sizes, curves moved to a point, their weights there, and curves for a row."""

from slipcurve.errors import NoCurve
from slipcurve.relations import first_sum
from slipcurve.rows import heard_points


def width_of(curve):
    """Tell how many numbers the longest line of a curve has."""
    return max([len(line) for line in curve], default=0)


def filled(p, curve):
    """Tell the lines of a curve as new lists, each filled up with 0 to the longest one."""
    width = width_of(curve)
    return [[number % p for number in line] + [0] * (width - len(line)) for line in curve]


def terms_of(curve):
    """Tell the terms (i, j) of a curve whose number is not 0."""
    return [(i, j) for j, line in enumerate(curve) for i, number in enumerate(line) if number != 0]


def turned(lines, width):
    """Tell the columns of lines that are all so wide, as x and y change places."""
    return [[line[at] for line in lines] for at in range(width)]


def raised(p, lines, by):
    """Tell the lines (all of one width) of a curve with y + by in the place of y."""
    lines = list(lines)
    # Each round divides by y - by once more; what it leaves is the number of the next power of it.
    for first in range(len(lines)):
        for at in reversed(range(first, len(lines) - 1)):
            lines[at] = [(low + by * high) % p for low, high in zip(lines[at], lines[at + 1])]
    return lines


def size_of(k, curve):
    """Tell the greatest i + (k - 1) j of the terms of a curve."""
    return max([i + (k - 1) * j for i, j in terms_of(curve)], default=0)


def moved(p, curve, point):
    """Tell the curve that has at each (x, y) the value of this one at (x + a, y + b), for a point (a, b)."""
    a, b = point
    lines = raised(p, filled(p, curve), b)
    columns = raised(p, turned(lines, width_of(lines)), a)
    return tuple([tuple(line) for line in turned(columns, len(lines))])


def weight_at(p, curve, point):
    """Tell the least i + j of the terms of a curve that is moved to a point."""
    return min([i + j for i, j in terms_of(moved(p, curve, point))], default=0)


def first_terms(k, many):
    """Tell so many terms, those of a lesser size first; k is 2 at least."""
    terms = []
    size = 0
    while len(terms) < many:
        terms += [(size - (k - 1) * j, j) for j in range(size // (k - 1) + 1)]
        size += 1
    return terms[:many]


def least_curve(p, k, points):
    """Tell (size, curve) of a curve of the least size with its weight at each of the weighted points."""
    asked = sum([weight * (weight + 1) // 2 for x, y, weight in points])
    # One more term than there are numbers that must come to 0: some sum of them does it.
    found = first_sum(p, first_terms(k, asked + 1), points)
    size = max([i + (k - 1) * j for i, j in found])
    lines = [
        tuple([found.get((i, j), 0) for i in range(size - (k - 1) * j + 1)])
        for j in range(size // (k - 1) + 1)
    ]
    return (size, tuple(lines))


def check_curves(k):
    """Refuse a k for which there are no curves."""
    if k < 2:
        raise NoCurve("only polynomials of two numbers or more have curves")


def curve_for(code, row, m):
    """Tell (size, curve) of a curve of the least size that has the weight m at each heard place's point."""
    p, k, places = code
    check_curves(k)
    return least_curve(p, k, [(place, entry, m) for place, entry in heard_points(code, row)])
