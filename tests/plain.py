"""What the tests hold the program against: the document's words, tried one by one."""

import functools
import itertools
import math
import random

HUGE = 10 ** 40 - 1
PRIMES = [5, 7, 11, 13, 17, 19, 23, 29, 31, 37, 41, 43, 47, 53, 59, 61, 67, 71, 73, 79, 83, 89, 97]


def plain_value(p, polynomial, x):
    return sum(number * x ** power for power, number in enumerate(polynomial)) % p


def plain_fits(code, row, polynomial):
    p, k, places = code
    return [
        at for at in range(len(places))
        if row[at] is not None and plain_value(p, polynomial, places[at]) == row[at]
    ]


def every_polynomial(code):
    p, k, places = code
    return list(itertools.product(range(p), repeat=k))


def plain_near(code, row, t):
    return [f for f in every_polynomial(code) if len(plain_fits(code, row, f)) >= t]


def plain_nearest(code, row):
    counts = {f: len(plain_fits(code, row, f)) for f in every_polynomial(code)}
    most = max(counts.values())
    return (most, sorted(f for f in counts if counts[f] == most))


def multiplied(p, left, right):
    product = [0] * (len(left) + len(right) - 1)
    for i, a in enumerate(left):
        for j, b in enumerate(right):
            product[i + j] = (product[i + j] + a * b) % p
    return product


def lagrange(p, points):
    """The polynomial through points, by another way than the program's."""
    total = [0] * len(points)
    for x, y in points:
        part = [y]
        for other, unused in points:
            if other != x:
                down = pow(x - other, -1, p)
                part = multiplied(p, part, [-other * down % p, down])
        total = [(a + b) % p for a, b in zip(total, part)]
    return tuple(total)


@functools.lru_cache(maxsize=16)
def spanned_counts(code, row):
    """For each polynomial through k heard places of a row (a tuple) how many places it fits."""
    p, k, places = code
    points = heard_of(code, row)
    through = {lagrange(p, list(some)) for some in itertools.combinations(points, k)}
    return {f: len(plain_fits(code, row, f)) for f in through}


def spanned_near(code, row, t):
    """All that fit t places, for codes with too many polynomials to try each (t from k on)."""
    counts = spanned_counts(code, tuple(row))
    return sorted(f for f in counts if counts[f] >= t)


def heard_of(code, row):
    """The points (place, entry) of the heard places."""
    return [(x, y) for x, y in zip(code[2], row) if y is not None]


def rank(p, lines):
    """How many of the lines are free of one another."""
    lines = [list(line) for line in lines]
    found = 0
    for column in range(len(lines[0]) if lines else 0):
        lead = next((at for at in range(found, len(lines)) if lines[at][column] % p), None)
        if lead is None:
            continue
        lines[found], lines[lead] = lines[lead], lines[found]
        down = pow(lines[found][column], -1, p)
        for at in range(found + 1, len(lines)):
            times = lines[at][column] * down % p
            if times:
                lines[at] = [(a - times * b) % p for a, b in zip(lines[at], lines[found])]
        found += 1
    return found


def plain_moved(p, curve, point):
    """A curve moved to a point, each number worked out from the powers of x + a and y + b."""
    a, b = point
    wide = max(len(line) for line in curve)
    total = [[0] * wide for line in curve]
    for j, line in enumerate(curve):
        for i, number in enumerate(line):
            for v in range(j + 1):
                for u in range(i + 1):
                    part = number * math.comb(i, u) * a ** (i - u) * math.comb(j, v) * b ** (j - v)
                    total[v][u] += part
    return tuple(tuple(number % p for number in line) for line in total)


def plain_weight(p, curve, point):
    lines = plain_moved(p, curve, point)
    return min(i + j for j, line in enumerate(lines) for i, number in enumerate(line) if number)


def plain_size(k, curve):
    return max(i + (k - 1) * j for j, line in enumerate(curve) for i, number in enumerate(line) if number)


def terms_up_to(k, size):
    return [(i, j) for j in range(size + 1) for i in range(size + 1) if i + (k - 1) * j <= size]


def weighted(points, m):
    """The points, each with the weight m behind it."""
    return [(a, b, m) for a, b in points]


def asked_of(p, terms, points):
    """A line for each number that must come to 0 at the weighted points, with what each term brings to it."""
    lines = []
    for a, b, m in points:
        for u, v in itertools.product(range(m), repeat=2):
            if u + v < m:
                lines.append([
                    math.comb(i, u) * pow(a, max(i - u, 0), p) * math.comb(j, v) * pow(b, max(j - v, 0), p) % p
                    for i, j in terms
                ])
    return lines


def none_of_size(p, k, points, size):
    """Whether no curve of at most a size has its weight at each of the weighted points."""
    if size < 0:
        return True
    terms = terms_up_to(k, size)
    lines = asked_of(p, terms, points)
    return len(lines) >= len(terms) and rank(p, lines) == len(terms)


def has_weights(p, curve, points):
    """Whether a curve has its weight, or more, at each of the weighted points."""
    terms = [(i, j) for j, line in enumerate(curve) for i in range(len(line))]
    numbers = [number for line in curve for number in line]
    return not any(sum(map(int.__mul__, line, numbers)) % p for line in asked_of(p, terms, points))


def assert_curve(test, p, curve):
    """What is told is a curve: of so many lines of so many numbers, not all 0, and tuples all through."""
    test.assertIs(type(curve), tuple)
    test.assertIn(len(curve), range(1, 31))
    for line in curve:
        test.assertIs(type(line), tuple)
        test.assertIn(len(line), range(1, 61))
        for number in line:
            test.assertIs(type(number), int)
            test.assertIn(number, range(p))
    test.assertTrue(any(any(line) for line in curve))


def assert_numbers(test, p, numbers, many):
    """What is told is a polynomial of so many numbers."""
    test.assertIs(type(numbers), tuple)
    test.assertEqual(len(numbers), many)
    for number in numbers:
        test.assertIs(type(number), int)
        test.assertIn(number, range(p))


def assert_polynomials(test, code, polynomials):
    """What is told is a list of unlike polynomials of the code, rising."""
    test.assertIs(type(polynomials), list)
    test.assertEqual(polynomials, sorted(set(polynomials)))
    for polynomial in polynomials:
        assert_numbers(test, code[0], polynomial, code[1])


def has_right(code, points, e, left):
    """Whether some right of k + e numbers goes with a left."""
    p, k, places = code
    wanted = [(x, plain_value(p, left, x) * y % p) for x, y in points]
    return len(wanted) <= k + e or not any(lagrange(p, wanted)[k + e:])


def tried_least(code, rows):
    """The least e of which some left that is not all 0 has a right for each row, every left tried."""
    parts = [heard_of(code, row) for row in rows]
    for e in itertools.count():
        for left in itertools.product(range(code[0]), repeat=e + 1):
            # Of all multiples of a left the one whose first number that is not 0 is 1 will do.
            if next((number for number in left if number), 0) == 1:
                if all(has_right(code, points, e, left) for points in parts):
                    return e


def free_of_locators(code, rows, e):
    """Whether rows have no locator with this e: all that comes to 0 at the heard places has a left of 0 alone."""
    p, k, places = code
    rights = []
    lines = []
    for number, row in enumerate(rows):
        for x, y in heard_of(code, row):
            powers = [pow(x, i, p) for i in range(k + e)]
            ahead, behind = [0] * (number * (k + e)), [0] * ((len(rows) - 1 - number) * (k + e))
            rights.append(ahead + powers + behind)
            lines.append(rights[-1] + [-y * pow(x, i, p) for i in range(e + 1)])
    return rank(p, lines) == rank(p, rights) + e + 1


def added(p, left, right):
    pairs = itertools.zip_longest(left, right, fillvalue=0)
    return [(a + b) % p for a, b in pairs]


def put_in(p, curve, polynomial):
    """The numbers of a curve with a polynomial in the place of y."""
    total = []
    power = [1]
    for line in curve:
        total = added(p, total, multiplied(p, line, power))
        power = multiplied(p, power, polynomial)
    return total


def plain_roots(p, k, curve):
    return [f for f in itertools.product(range(p), repeat=k) if not any(put_in(p, curve, f))]


def curves_multiplied(p, left, right):
    lines = [[0] for line in range(len(left) + len(right) - 1)]
    for i, a in enumerate(left):
        for j, b in enumerate(right):
            lines[i + j] = added(p, lines[i + j], multiplied(p, a, b))
    return tuple(tuple(line) for line in lines)


def curve_of_roots(p, polynomials):
    """The product of y less each of the polynomials."""
    curve = ((1,),)
    for f in polynomials:
        curve = curves_multiplied(p, curve, (tuple(-number % p for number in f), (1,)))
    return curve


def some_row(source, code, silence):
    """A row of which each entry is None so often in ten times."""
    p, k, places = code
    return [None if source.randrange(10) < silence else source.randrange(p) for x in places]


def slipped_row(source, code, polynomial, slips):
    """The values of a polynomial, just so many of them wrong."""
    p, k, places = code
    row = [plain_value(p, polynomial, x) for x in places]
    for at in source.sample(range(len(places)), slips):
        row[at] = (row[at] + source.randrange(1, p)) % p
    return row


def some_polynomial(source, p, many):
    return tuple(source.randrange(p) for at in range(many))


def some_curve(source, p, lines, numbers):
    """A curve of at most so many lines of at most so many numbers, some of them 0 here and there."""
    while True:
        curve = []
        for line in range(source.randint(1, lines)):
            zeros = source.choice((0, 0, 5, 10))
            wide = source.randint(1, numbers)
            curve.append(tuple(0 if source.randrange(10) < zeros else source.randrange(p) for at in range(wide)))
        if any(any(line) for line in curve):
            return tuple(curve)


def trial_rows(code, seed):
    """Rows of a code: of all kinds of silence, and some near to a polynomial."""
    p, k, places = code
    source = seeded(seed)
    rows = [some_row(source, code, silence) for silence in (0, 0, 2, 5, 8)]
    rows += [[0] * len(places), [None] * len(places)]
    for at in (0, len(places) - 1):
        lone = [None] * len(places)
        lone[at] = p - 1
        rows.append(lone)
    for slips in range(0, len(places), 2):
        rows.append(slipped_row(source, code, some_polynomial(source, p, k), slips))
    return rows


def small_codes():
    """Codes with so few polynomials that all of them can be tried."""
    return [
        (5, 1, (3,)),
        (5, 1, (0, 1, 2, 3, 4)),
        (5, 2, (4, 0)),
        (5, 2, (0, 1, 2, 3, 4)),
        (5, 3, (2, 0, 4, 1, 3)),
        (5, 4, (4, 3, 2, 1, 0)),
        (5, 5, (1, 0, 2, 3, 4)),
        (7, 1, (6, 2, 4)),
        (7, 2, (0, 1, 3, 5)),
        (7, 2, (6, 5, 4, 3, 2, 1, 0)),
        (7, 3, (1, 2, 3, 4, 5, 6)),
        (11, 2, (10, 0, 5, 7, 3, 1, 2, 8)),
        (17, 1, tuple(range(16))),
        (17, 2, tuple(range(16, 0, -1))),
    ]


def some_things():
    """Things that are neither codes nor rows: whole numbers, truths, None, texts, nested ones."""
    flat = [0, 1, -1, 7, HUGE, -HUGE, True, False, None, "", "7", "7 2 : 0 1 3 5", "a\nb", "~" * 4000]
    things = list(flat)
    for thing in flat:
        things += [[thing], (thing,), [[thing]], ((thing,),), ([(thing,)],), [([(thing,)],)]]
        things += [(thing, thing, thing), [thing, thing, thing], (thing, thing), (thing,) * 4]
    return things + [[], (), [[]], ((),), ([],), ((), (), ()), [None] * 300, [0] * 300, (0,) * 300]


def seeded(number):
    return random.Random(number)
