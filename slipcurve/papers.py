"""Papers: a weight and a curve that show which polynomials alone can fit a row in t places."""

from slipcurve.curves import check_curves, curve_for, size_of, weight_at
from slipcurve.errors import NoPaper
from slipcurve.roots import roots_of
from slipcurve.rows import fits, heard_points

MOST_PAPER_WEIGHT = 4


def paper_of(code, row, t):
    """Tell a paper (m, curve) that holds, with the least m for which there is any."""
    for m in range(1, MOST_PAPER_WEIGHT + 1):
        # If a curve of the least size is too great for the weight then each one is.
        size, curve = curve_for(code, row, m)
        if size < m * t:
            return (m, curve)
    raise NoPaper("no weight has a curve small enough for so few places")


def paper_holds(code, row, t, paper):
    """Tell whether a paper's curve has its weight at each heard place, and a size below m times t."""
    p, k, places = code
    check_curves(k)
    m, curve = paper
    if not 1 <= m <= MOST_PAPER_WEIGHT or size_of(k, curve) >= m * t:
        return False
    return all([weight_at(p, curve, point) >= m for point in heard_points(code, row)])


def near_by(code, row, t, paper):
    """Tell all polynomials of a code that fit a row in t places at least, by a paper that holds."""
    if not paper_holds(code, row, t, paper):
        raise NoPaper("the paper does not hold")
    p, k, places = code
    m, curve = paper
    return [root for root in roots_of(p, k, curve) if len(fits(code, row, root)) >= t]
