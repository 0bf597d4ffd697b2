"""What the tests hold the program against: the document's words, tried one by one."""

import itertools
import random

HUGE = 10 ** 40 - 1
PRIMES = [5, 7, 11, 13, 17, 19, 23, 29, 31, 37, 41, 43, 47, 53, 59, 61, 67, 71, 73, 79, 83, 89, 97]


def plain_value(p, polynomial, x):
    return sum(number * x ** power for power, number in enumerate(polynomial)) % p


def plain_fits(code, row, polynomial):
    p, k, places = code
    return [
        at for at in range(len(places))
        if row[at] is not None and plain_value(p, polynomial, places[at]) == row[at]
    ]


def every_polynomial(code):
    p, k, places = code
    return list(itertools.product(range(p), repeat=k))


def plain_near(code, row, t):
    return [f for f in every_polynomial(code) if len(plain_fits(code, row, f)) >= t]


def plain_nearest(code, row):
    counts = {f: len(plain_fits(code, row, f)) for f in every_polynomial(code)}
    most = max(counts.values())
    return (most, sorted(f for f in counts if counts[f] == most))


def multiplied(p, left, right):
    product = [0] * (len(left) + len(right) - 1)
    for i, a in enumerate(left):
        for j, b in enumerate(right):
            product[i + j] = (product[i + j] + a * b) % p
    return product


def lagrange(p, points):
    """The polynomial through points, by another way than the program's."""
    total = [0] * len(points)
    for x, y in points:
        part = [y]
        for other, unused in points:
            if other != x:
                down = pow(x - other, -1, p)
                part = multiplied(p, part, [-other * down % p, down])
        total = [(a + b) % p for a, b in zip(total, part)]
    return tuple(total)


def spanned_near(code, row, t):
    """All that fit t places, for codes with too many polynomials to try each (t from k on)."""
    p, k, places = code
    points = [(x, y) for x, y in zip(places, row) if y is not None]
    through = {lagrange(p, list(some)) for some in itertools.combinations(points, k)}
    return sorted(f for f in through if len(plain_fits(code, row, f)) >= t)


def some_row(source, code, silence):
    """A row of which each entry is None so often in ten times."""
    p, k, places = code
    return [None if source.randrange(10) < silence else source.randrange(p) for x in places]


def slipped_row(source, code, polynomial, slips):
    """The values of a polynomial, just so many of them wrong."""
    p, k, places = code
    row = [plain_value(p, polynomial, x) for x in places]
    for at in source.sample(range(len(places)), slips):
        row[at] = (row[at] + source.randrange(1, p)) % p
    return row


def small_codes():
    """Codes with so few polynomials that all of them can be tried."""
    return [
        (5, 1, (3,)),
        (5, 1, (0, 1, 2, 3, 4)),
        (5, 2, (4, 0)),
        (5, 2, (0, 1, 2, 3, 4)),
        (5, 3, (2, 0, 4, 1, 3)),
        (5, 4, (4, 3, 2, 1, 0)),
        (5, 5, (1, 0, 2, 3, 4)),
        (7, 1, (6, 2, 4)),
        (7, 2, (0, 1, 3, 5)),
        (7, 2, (6, 5, 4, 3, 2, 1, 0)),
        (7, 3, (1, 2, 3, 4, 5, 6)),
        (11, 2, (10, 0, 5, 7, 3, 1, 2, 8)),
        (17, 1, tuple(range(16))),
        (17, 2, tuple(range(16, 0, -1))),
    ]


def some_things():
    """Things that are neither codes nor rows: whole numbers, truths, None, texts, nested ones."""
    flat = [0, 1, -1, 7, HUGE, -HUGE, True, False, None, "", "7", "7 2 : 0 1 3 5", "a\nb", "~" * 4000]
    things = list(flat)
    for thing in flat:
        things += [[thing], (thing,), [[thing]], ((thing,),), ([(thing,)],), [([(thing,)],)]]
        things += [(thing, thing, thing), [thing, thing, thing], (thing, thing), (thing,) * 4]
    return things + [[], (), [[]], ((),), ([],), ((), (), ()), [None] * 300, [0] * 300, (0,) * 300]


def seeded(number):
    return random.Random(number)
