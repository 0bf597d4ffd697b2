"""The roots of a curve: the polynomials that put in the place of y bring it to nought."""

from slipcurve.codes import value_at
from slipcurve.curves import filled, raised, terms_of


def without_x(lines):
    """Tell the lines of a curve divided by x as often as it goes."""
    least = min([i for i, j in terms_of(lines)])
    return [line[least:] for line in lines]


def next_curve(p, lines, number):
    """Tell the lines of a curve with number + x y in the place of y."""
    beyond = len(lines) - 1
    return [
        [0] * j + line + [0] * (beyond - j)
        for j, line in enumerate(raised(p, lines, number))
    ]


def further(p, known, lines):
    """Tell each start of a root that is one number longer than a known one, with the curve for the rest.

    A root begins with a number at which the curve, freed of x, is nought where x is 0.
    """
    lines = without_x(lines)
    lowest = [line[0] for line in lines]
    return [
        (known + (number,), next_curve(p, lines, number))
        for number in range(p) if value_at(p, lowest, number) == 0
    ]


def roots_of(p, k, curve):
    """Tell all roots of k numbers of a curve, rising."""
    lines = filled(p, curve)
    # What is 0 throughout is no curve: every polynomial would be a root of it.
    if not terms_of(lines):
        return []
    starts = [((), lines)]
    for step in range(k):
        starts = [longer for known, rest in starts for longer in further(p, known, rest)]
    # Nothing may follow the k numbers: with 0 in the place of y the rest must come to nought.
    return sorted([known for known, rest in starts if not any(rest[0])])
