"""Terms x^i y^j that together come to nought at points, and the first of them that do.

A term is a pair (i, j). A weighted point is a triple (x, y, weight): a sum of terms has a weight there
when all of its numbers (u, v), u + v below the weight, are 0 once it is moved to (x, y).
"""

from slipcurve.codes import inverse, times_root


def moved_powers(p, by, most, kept):
    """Tell for each power from 0 to most the first so many numbers of x + by taken so often."""
    powers = [[1] + [0] * (kept - 1)]
    for power in range(most):
        powers.append(times_root(p, powers[-1], -by)[:kept])
    return powers


def numbers_at(p, terms, point):
    """Tell for each term the list of those of its numbers at a weighted point that must come to 0."""
    x, y, weight = point
    by_x = moved_powers(p, x, max([i for i, j in terms]), weight)
    by_y = moved_powers(p, y, max([j for i, j in terms]), weight)
    return [
        [by_x[i][u] * by_y[j][v] % p for u in range(weight) for v in range(weight - u)]
        for i, j in terms
    ]


def vectors_of(p, terms, points):
    """Tell for each term its numbers at all of the weighted points, in one list."""
    vectors = [[] for term in terms]
    for point in points:
        vectors = [vector + numbers for vector, numbers in zip(vectors, numbers_at(p, terms, point))]
    return vectors


def without(p, vector, times, other):
    """Tell a vector less another one of the same length, taken so many times."""
    return [(number - times * less) % p for number, less in zip(vector, other)]


def first_relation(p, vectors):
    """Tell the numbers, the last one 1, by which the least many first vectors add up to nought, or None.

    Where there are more vectors than each of them has numbers some always do.
    """
    length = len(vectors[0])
    cleared = []
    for count, vector in enumerate(vectors):
        # Behind the vector stands of which vectors, and how often each, it is the sum.
        whole = vector + [0] * len(vectors)
        whole[length + count] = 1
        for lead, other in cleared:
            whole = without(p, whole, whole[lead], other)
        leads = [at for at in range(length) if whole[at] != 0]
        if not leads:
            return whole[length:length + count + 1]
        factor = inverse(p, whole[leads[0]])
        cleared.append((leads[0], [number * factor % p for number in whole]))
    return None


def first_sum(p, terms, points):
    """Tell the least many first terms whose sum, each times its number, has its weight at all points.

    There must be more terms than numbers that must come to 0, so that some do it.
    Told is a dict of the numbers by their terms, in the order of the terms; the last number is 1.
    """
    relation = first_relation(p, vectors_of(p, terms, points))
    return dict(zip(terms, relation))
