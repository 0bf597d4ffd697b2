"""Codes, the values of polynomials, and the polynomial through points.

All sums and products are taken modulo a prime p.
"""

LEAST_P = 5
GREATEST_P = 97
MOST_NUMBERS = 5
MOST_PLACES = 16


def is_whole(thing):
    """Tell whether a thing is a whole number: an int that is no truth."""
    return isinstance(thing, int) and not isinstance(thing, bool)


def is_number(p, thing):
    """Tell whether a thing is a whole number from 0 to p - 1."""
    return is_whole(thing) and 0 <= thing < p


def is_code_prime(thing):
    """Tell whether a thing is a prime that a code may have."""
    # The bounds come first: a number of forty figures is never divided out.
    if not is_whole(thing) or not LEAST_P <= thing <= GREATEST_P:
        return False
    return all([thing % divisor != 0 for divisor in range(2, thing)])


def are_places(p, k, thing):
    """Tell whether a thing can be the places of a code with this p and k."""
    if not isinstance(thing, tuple) or not k <= len(thing) <= MOST_PLACES:
        return False
    # This goes first: a list can not be a member of a set, and True would be alike with 1 there.
    if not all([is_number(p, place) for place in thing]):
        return False
    return len(set(thing)) == len(thing)


def is_code(thing):
    """Tell whether a thing is a code (p, k, places)."""
    if not isinstance(thing, tuple) or len(thing) != 3:
        return False
    p, k, places = thing
    if not is_code_prime(p) or not is_whole(k) or not 1 <= k <= MOST_NUMBERS:
        return False
    return are_places(p, k, places)


def value_at(p, polynomial, x):
    """Tell the value of a polynomial (its lowest power first) at x."""
    value = 0
    for number in reversed(polynomial):
        value = (value * x + number) % p
    return value


def inverse(p, number):
    """Tell what multiplied by a number comes to 1; p is a prime, the number is not 0."""
    # By Fermat it is the number taken p - 2 times; squaring keeps this short.
    product = 1
    square = number % p
    left = p - 2
    while left > 0:
        if left % 2 == 1:
            product = product * square % p
        square = square * square % p
        left //= 2
    return product


def times_root(p, polynomial, root):
    """Tell a polynomial (a list) multiplied by x - root, which makes it 0 there too."""
    raised = [0] + polynomial
    kept = polynomial + [0]
    return [(high - root * low) % p for high, low in zip(raised, kept)]


def bent(p, polynomial, vanishing, point):
    """Tell a polynomial (a list) with so much of vanishing added that it goes through a point."""
    x, y = point
    missing = y - value_at(p, polynomial, x)
    factor = missing * inverse(p, value_at(p, vanishing, x)) % p
    added = [(number + factor * other) % p for number, other in zip(polynomial, vanishing)]
    return added + polynomial[len(added):]


def through(p, points):
    """Tell the polynomial of as many numbers as there are points that goes through them."""
    polynomial = [0] * len(points)
    # A multiple of vanishing moves the value at the next point and at none of the earlier ones.
    vanishing = [1]
    for x, y in points:
        polynomial = bent(p, polynomial, vanishing, (x, y))
        vanishing = times_root(p, vanishing, x)
    return tuple(polynomial)
