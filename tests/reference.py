"""What the tests compare with: plain ways to the same answers, not those of the program."""

import itertools
import math
import random
from fractions import Fraction


def unknowns(coefficients):
    return {3: 2, 6: 3, 10: 4, 15: 5}[len(coefficients)]


def value(coefficients, vector):
    pairs = itertools.combinations_with_replacement(vector, 2)
    return sum(c * x * y for c, (x, y) in zip(coefficients, pairs, strict=True))


def table(coefficients):
    """By values alone: the product of two vectors is the value of the sum less the values of both."""
    n = unknowns(coefficients)
    unit = [tuple(int(i == j) for j in range(n)) for i in range(n)]

    def both(v, w):
        total = tuple(a + b for a, b in zip(v, w))
        return value(coefficients, total) - value(coefficients, v) - value(coefficients, w)

    return tuple(tuple(both(v, w) for w in unit) for v in unit)


def determinant(rows):
    total = 0
    for order in itertools.permutations(range(len(rows))):
        swaps = sum(a > b for a, b in itertools.combinations(order, 2))
        total += (-1) ** swaps * math.prod(rows[i][j] for i, j in enumerate(order))
    return total


def signature(coefficients):
    """All roots of the characteristic polynomial are real, so changes of sign tell how many are above 0."""
    rows = table(coefficients)
    n = len(rows)
    polynomial = []
    for k in range(n + 1):
        minors = [determinant([[rows[i][j] for j in s] for i in s]) for s in itertools.combinations(range(n), k)]
        polynomial.append((-1) ** k * sum(minors))
    signs = [c > 0 for c in polynomial if c]
    plus = sum(a != b for a, b in zip(signs, signs[1:]))
    return plus, len([c for c in polynomial if c]) and last_index(polynomial) - plus


def last_index(numbers):
    return max(k for k, c in enumerate(numbers) if c)


def inverse(rows):
    n = len(rows)
    d = determinant(rows)
    return [[Fraction((-1) ** (i + j) * determinant([
        [rows[a][b] for b in range(n) if b != i] for a in range(n) if a != j
    ]), d) for j in range(n)] for i in range(n)]


def box(coefficients, most):
    """At a vector of a value up to `most` no number is greater than the entry here (Cauchy, Schwarz)."""
    back = inverse(table(coefficients))
    return [math.isqrt(math.floor(2 * most * back[i][i])) for i in range(len(back))]


def listing(coefficients, most):
    """All vectors with a value up to `most`, with these values, out of the whole box."""
    ranges = [range(-b, b + 1) for b in box(coefficients, most)]
    found = {}
    for vector in itertools.product(*ranges):
        v = value(coefficients, vector)
        if v <= most:
            found[vector] = v
    return found


def image(rows, vector):
    return tuple(sum(a * b for a, b in zip(row, vector)) for row in rows)


def times(rows, others):
    return tuple(tuple(sum(row[k] * others[k][j] for k in range(len(others))) for j in range(len(others)))
                 for row in rows)


def changed(coefficients, change):
    """By values alone: at unit vectors and their sums."""
    n = unknowns(coefficients)
    unit = [tuple(int(i == j) for j in range(n)) for i in range(n)]
    out = []
    for i in range(n):
        for j in range(i, n):
            if i == j:
                out.append(value(coefficients, image(change, unit[i])))
            else:
                total = tuple(a + b for a, b in zip(unit[i], unit[j]))
                out.append(value(coefficients, image(change, total)) - value(coefficients, image(change, unit[i]))
                           - value(coefficients, image(change, unit[j])))
    return tuple(out)


def some_change(source, n, steps, proper=None):
    """A change of the determinant 1 or -1 out of additions, swaps and opposites, with its inverse."""
    forth = tuple(tuple(int(i == j) for j in range(n)) for i in range(n))
    back = forth
    size = 1
    for _ in range(steps):
        i, j = source.sample(range(n), 2)
        k = source.choice((-2, -1, 1, 2))
        step = [list(row) for row in tuple(tuple(int(a == b) for b in range(n)) for a in range(n))]
        undo = [list(row) for row in step]
        step[i][j] = k
        undo[i][j] = -k
        forth, back = times(forth, step), times(undo, back)
    if (proper is None and source.random() < 0.5) or proper is False:
        flip = [[int(a == b) for b in range(n)] for a in range(n)]
        flip[0][0] = -1
        forth, back = times(forth, flip), times(flip, back)
        size = -1
    assert determinant(forth) == size
    return forth, back


def diagonal(numbers):
    n = len(numbers)
    return tuple(numbers[i] if i == j else 0 for i in range(n) for j in range(i, n))


def source(seed):
    return random.Random(seed)


POSITIVE = (
    (1, 0, 1), (1, 1, 1), (2, 2, 3), (2, 1, 3), (1, 0, 5), (3, -2, 7), (5, 5, 5),
    (1, 0, 0, 1, 0, 1), (1, 1, 1, 1, 1, 1), (1, 0, 1, 2, -1, 3), (2, 1, 0, 3, 2, 4), (2, 2, 2, 3, 0, 3),
    (1, 0, 0, 0, 1, 0, 0, 1, 0, 1), (1, 1, 1, 1, 1, 1, 1, 1, 1, 1), (1, -1, 0, 0, 1, -1, -1, 1, 0, 1),
    (1, 0, 1, 0, 2, 1, -1, 2, 0, 3), (2, 1, 0, 1, 2, 0, -1, 3, 1, 3),
    (1, 0, 0, 0, 0, 1, 0, 0, 0, 1, 0, 0, 1, 0, 1), (1, 1, 0, 0, 0, 1, 1, 0, 0, 1, 1, 0, 1, 1, 1),
    (2, 1, 0, -1, 0, 2, 1, 0, 0, 3, 0, 1, 3, -1, 4),
)

# Skew forms with great coefficients come out of forms that are easy to list, by a known change.
SKEW_STARTS = ((1, 0, 1), (1, 1, 1), (2, 1, 3), (1, 0, 0, 1, 0, 1), (1, 1, 0, 2, 1, 3), (1, 1, 1, 1, 1, 1),
               (1, 0, 0, 0, 1, 0, 0, 1, 0, 1), (1, -1, 0, 0, 1, -1, -1, 1, 0, 1), (1, 0, 1, 0, 2, 1, -1, 2, 0, 3),
               (1, 0, 0, 0, 0, 1, 0, 0, 0, 1, 0, 0, 1, 0, 1), (1, 1, 0, 0, 0, 1, 1, 0, 0, 1, 1, 0, 1, 1, 1))


def skew_forms(seed, each, least=100, most=1000):
    """Tuples (coefficients, easy coefficients, change, change back); the change makes the easy form into the skew one.

    The greatest coefficient is from `least` to `most` in size.
    """
    rows = []
    random_source = source(seed)
    for easy in SKEW_STARTS:
        found = 0
        while found < each:
            forth, back = some_change(random_source, unknowns(easy), random_source.randint(3, 12))
            skew = changed(easy, forth)
            if least <= max(map(abs, skew)) <= most:
                rows.append((skew, easy, forth, back))
                found += 1
    return rows
