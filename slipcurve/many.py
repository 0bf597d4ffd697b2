"""Rows that must have many near polynomials, and how many are due."""

from slipcurve.codes import times_root, value_at
from slipcurve.errors import TooFew
from slipcurve.near import choices


def check_many(code, t):
    """Refuse a t below k or above the count of places."""
    p, k, places = code
    if not k <= t <= len(places):
        raise TooFew("not so many places as from k to all of the code")


def due_of(code, t):
    """Tell how many near polynomials some row must have: all choices of t places over p^(t - k), rounded up."""
    check_many(code, t)
    p, k, places = code
    chosen = 1
    for at in range(t):
        chosen = chosen * (len(places) - at) // (at + 1)
    for step in range(t - k):
        # Rounding up each time comes to the same as rounding up once at the end.
        chosen = (chosen + p - 1) // p
    return chosen


def vanishing_at(p, roots):
    """Tell the polynomial (a list) that is 0 at the roots alone, the number of its greatest power 1."""
    polynomial = [1]
    for root in roots:
        polynomial = times_root(p, polynomial, root)
    return polynomial


def many_near(code, t):
    """Tell (row, polynomials): a row and at least the due of polynomials that fit it in t places, rising."""
    check_many(code, t)
    p, k, places = code
    lows = {}
    for roots in choices(places, t):
        vanishing = vanishing_at(p, roots)
        lows.setdefault(tuple(vanishing[k:]), []).append(vanishing[:k])
    # The values of the powers from k on are the row: where the whole is 0, less its low part fits.
    high = max(lows, key=lambda top: len(lows[top]))
    row = [value_at(p, [0] * k + list(high), place) for place in places]
    polynomials = [tuple([-number % p for number in low]) for low in lows[high]]
    return (row, sorted(polynomials))
