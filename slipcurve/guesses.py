"""Guesses with weights: the polynomials that weigh enough, and the least curve for guesses."""

from slipcurve.codes import bent, times_root, value_at
from slipcurve.curves import check_curves, least_curve
from slipcurve.errors import TooFew


def weighted_points(code, guesses):
    """Tell for each guess (place, entry, weight); what is guessed at no place of the code is left out."""
    p, k, places = code
    return [
        (places[number], entry, weight)
        for number, entry, weight in guesses if 0 <= number < len(places)
    ]


def weight_in(p, points, polynomial):
    """Tell the weights of all weighted points together that a polynomial goes through."""
    return sum([weight for x, y, weight in points if value_at(p, polynomial, x) == y])


def weight_of(code, guesses, polynomial):
    """Tell the weight of a polynomial: that of all guesses together whose entry is its value there."""
    return weight_in(code[0], weighted_points(code, guesses), polynomial)


def most_weight(points, many):
    """Tell the most that the weights of so many places come to, one point for each place."""
    greatest = {}
    for x, y, weight in points:
        greatest[x] = max(weight, greatest.get(x, 0))
    return sum(sorted(greatest.values(), reverse=True)[:many])


def next_picks(p, points, rests, least, pick):
    """Tell each pick of one point more, further behind and at another place than those of a pick.

    A pick is (number of the next point, weight, polynomial through its points, one vanishing at these).
    """
    start, weight, polynomial, vanishing = pick
    found = []
    for at in range(start, len(points)):
        # From here on all that is left together is too light, and the more so further behind.
        if weight + rests[at] < least:
            break
        x, y, more = points[at]
        if value_at(p, vanishing, x) != 0:
            longer = bent(p, polynomial, vanishing, (x, y))
            found.append((at + 1, weight + more, longer, times_root(p, vanishing, x)))
    return found


def picked_weights(p, k, points, least):
    """Tell each polynomial through k points at unlike places that may weigh enough, with what these weigh."""
    # The heaviest go first: then a pick of light points has only lighter ones to come, and is soon left.
    ordered = sorted(points, key=lambda point: -point[2])
    rests = [most_weight(ordered[at:], len(ordered)) for at in range(len(ordered))]
    picks = [(0, 0, [0] * k, [1])]
    for step in range(k):
        picks = [longer for pick in picks for longer in next_picks(p, ordered, rests, least, pick)]
    found = {}
    for at, weight, polynomial, vanishing in picks:
        known = tuple(polynomial)
        found[known] = max(weight, found.get(known, 0))
    return found


def heavy(code, guesses, least):
    """Tell all polynomials of a code that weigh the least weight or more, rising."""
    p, k, places = code
    points = weighted_points(code, guesses)
    if least <= most_weight(points, max(k - 1, 0)):
        raise TooFew("fewer places than the polynomials have numbers may weigh so much")
    # So who weighs enough goes through points at k places, and these tell it.
    found = picked_weights(p, k, points, least)
    return [
        polynomial for polynomial in sorted(found)
        if found[polynomial] >= least or weight_in(p, points, polynomial) >= least
    ]


def curve_by(code, guesses):
    """Tell (size, curve) of a curve of the least size that has its weight at each guess's point."""
    p, k, places = code
    check_curves(k)
    return least_curve(p, k, weighted_points(code, guesses))
