"""What the tests compare with: plain ways to the same answers, not those of the program."""

import functools
import itertools
import math
import random
from fractions import Fraction


def unknowns(coefficients):
    return {3: 2, 6: 3, 10: 4, 15: 5}[len(coefficients)]


def value(coefficients, vector):
    pairs = itertools.combinations_with_replacement(vector, 2)
    return sum(c * x * y for c, (x, y) in zip(coefficients, pairs, strict=True))


def table(coefficients):
    """By values alone: the product of two vectors is the value of the sum less the values of both."""
    n = unknowns(coefficients)
    unit = [tuple(int(i == j) for j in range(n)) for i in range(n)]

    def both(v, w):
        total = tuple(a + b for a, b in zip(v, w))
        return value(coefficients, total) - value(coefficients, v) - value(coefficients, w)

    return tuple(tuple(both(v, w) for w in unit) for v in unit)


def determinant(rows):
    total = 0
    for order in itertools.permutations(range(len(rows))):
        swaps = sum(a > b for a, b in itertools.combinations(order, 2))
        total += (-1) ** swaps * math.prod(rows[i][j] for i, j in enumerate(order))
    return total


def signature(coefficients):
    """All roots of the characteristic polynomial are real, so changes of sign tell how many are above 0."""
    rows = table(coefficients)
    n = len(rows)
    polynomial = []
    for k in range(n + 1):
        minors = [determinant([[rows[i][j] for j in s] for i in s]) for s in itertools.combinations(range(n), k)]
        polynomial.append((-1) ** k * sum(minors))
    signs = [c > 0 for c in polynomial if c]
    plus = sum(a != b for a, b in zip(signs, signs[1:]))
    return plus, len([c for c in polynomial if c]) and last_index(polynomial) - plus


def last_index(numbers):
    return max(k for k, c in enumerate(numbers) if c)


def inverse(rows):
    n = len(rows)
    d = determinant(rows)
    return [[Fraction((-1) ** (i + j) * determinant([
        [rows[a][b] for b in range(n) if b != i] for a in range(n) if a != j
    ]), d) for j in range(n)] for i in range(n)]


def box(coefficients, most):
    """At a vector of a value up to `most` no number is greater than the entry here (Cauchy, Schwarz)."""
    back = inverse(table(coefficients))
    return [math.isqrt(math.floor(2 * most * back[i][i])) for i in range(len(back))]


def listing(coefficients, most):
    """All vectors with a value up to `most`, with these values, out of the whole box."""
    ranges = [range(-b, b + 1) for b in box(coefficients, most)]
    found = {}
    for vector in itertools.product(*ranges):
        v = value(coefficients, vector)
        if v <= most:
            found[vector] = v
    return found


def image(rows, vector):
    return tuple(sum(a * b for a, b in zip(row, vector)) for row in rows)


def times(rows, others):
    return tuple(tuple(sum(row[k] * others[k][j] for k in range(len(others))) for j in range(len(others)))
                 for row in rows)


def changed(coefficients, change):
    """By values alone: at unit vectors and their sums."""
    n = unknowns(coefficients)
    unit = [tuple(int(i == j) for j in range(n)) for i in range(n)]
    out = []
    for i in range(n):
        for j in range(i, n):
            if i == j:
                out.append(value(coefficients, image(change, unit[i])))
            else:
                total = tuple(a + b for a, b in zip(unit[i], unit[j]))
                out.append(value(coefficients, image(change, total)) - value(coefficients, image(change, unit[i]))
                           - value(coefficients, image(change, unit[j])))
    return tuple(out)


def some_change(source, n, steps, proper=None):
    """A change of the determinant 1 or -1 out of additions, swaps and opposites, with its inverse."""
    forth = tuple(tuple(int(i == j) for j in range(n)) for i in range(n))
    back = forth
    size = 1
    for _ in range(steps):
        i, j = source.sample(range(n), 2)
        k = source.choice((-2, -1, 1, 2))
        step = [list(row) for row in tuple(tuple(int(a == b) for b in range(n)) for a in range(n))]
        undo = [list(row) for row in step]
        step[i][j] = k
        undo[i][j] = -k
        forth, back = times(forth, step), times(undo, back)
    if (proper is None and source.random() < 0.5) or proper is False:
        flip = [[int(a == b) for b in range(n)] for a in range(n)]
        flip[0][0] = -1
        forth, back = times(forth, flip), times(flip, back)
        size = -1
    assert determinant(forth) == size
    return forth, back


def diagonal(numbers):
    n = len(numbers)
    return tuple(numbers[i] if i == j else 0 for i in range(n) for j in range(i, n))


def source(seed):
    return random.Random(seed)


POSITIVE = (
    (1, 0, 1), (1, 1, 1), (2, 2, 3), (2, 1, 3), (1, 0, 5), (3, -2, 7), (5, 5, 5),
    (1, 0, 0, 1, 0, 1), (1, 1, 1, 1, 1, 1), (1, 0, 1, 2, -1, 3), (2, 1, 0, 3, 2, 4), (2, 2, 2, 3, 0, 3),
    (1, 0, 0, 0, 1, 0, 0, 1, 0, 1), (1, 1, 1, 1, 1, 1, 1, 1, 1, 1), (1, -1, 0, 0, 1, -1, -1, 1, 0, 1),
    (1, 0, 1, 0, 2, 1, -1, 2, 0, 3), (2, 1, 0, 1, 2, 0, -1, 3, 1, 3),
    (1, 0, 0, 0, 0, 1, 0, 0, 0, 1, 0, 0, 1, 0, 1), (1, 1, 0, 0, 0, 1, 1, 0, 0, 1, 1, 0, 1, 1, 1),
    (2, 1, 0, -1, 0, 2, 1, 0, 0, 3, 0, 1, 3, -1, 4),
)

# Skew forms with great coefficients come out of forms that are easy to list, by a known change.
SKEW_STARTS = ((1, 0, 1), (1, 1, 1), (2, 1, 3), (1, 0, 0, 1, 0, 1), (1, 1, 0, 2, 1, 3), (1, 1, 1, 1, 1, 1),
               (1, 0, 0, 0, 1, 0, 0, 1, 0, 1), (1, -1, 0, 0, 1, -1, -1, 1, 0, 1), (1, 0, 1, 0, 2, 1, -1, 2, 0, 3),
               (1, 0, 0, 0, 0, 1, 0, 0, 0, 1, 0, 0, 1, 0, 1), (1, 1, 0, 0, 0, 1, 1, 0, 0, 1, 1, 0, 1, 1, 1))


def skew_forms(seed, each, least=100, most=1000):
    """Tuples (coefficients, easy coefficients, change, change back); the change makes the easy form into the skew one.

    The greatest coefficient is from `least` to `most` in size.
    """
    rows = []
    random_source = source(seed)
    for easy in SKEW_STARTS:
        found = 0
        while found < each:
            forth, back = some_change(random_source, unknowns(easy), random_source.randint(3, 12))
            skew = changed(easy, forth)
            if least <= max(map(abs, skew)) <= most:
                rows.append((skew, easy, forth, back))
                found += 1
    return rows


def own_changes(coefficients):
    """How many own changes there are, and how many of them are proper: all tuples of vectors with the same table."""
    rows = table(coefficients)
    n = len(rows)
    vectors = listing(coefficients, max(rows[i][i] // 2 for i in range(n)))
    systems = [()]
    for i in range(n):
        shell = [v for v, m in vectors.items() if 2 * m == rows[i][i]]
        systems = [s + (v,) for s in systems for v in shell
                   if all(dot_table(rows, s[j], v) == rows[j][i] for j in range(i))]
    signs = [determinant(s) for s in systems]
    assert set(signs) <= {1, -1}
    return len(signs), signs.count(1)


def dot_table(rows, v, w):
    return sum(v[i] * rows[i][j] * w[j] for i in range(len(v)) for j in range(len(w)))


@functools.cache
def least_of_bases(coefficients, most):
    """The least tuple (squares, coefficients) of all bases of vectors with a value up to `most`.

    A basis and its opposite have the same one, so the first vector is taken just with one sign.
    """
    rows = table(coefficients)
    n = len(rows)
    vectors = sorted((m, v) for v, m in listing(coefficients, most).items() if m > 0)
    best = [None]

    def go(system, squares):
        if len(system) == n - 1:
            finish(system, squares)
            return
        for m, v in vectors:
            if best[0] is not None and squares + (m,) > best[0][0][:len(squares) + 1]:
                break
            if system or v > (0,) * n:
                go(system + (v,), squares + (m,))

    def finish(system, squares):
        minors = [(-1) ** (n - 1 + k) * determinant([v[:k] + v[k + 1:] for v in system]) for k in range(n)]
        if not any(minors):
            return
        for m, v in vectors:
            if best[0] is not None and squares + (m,) > best[0][0]:
                break
            if abs(sum(a * b for a, b in zip(minors, v))) == 1:
                whole = system + (v,)
                own = tuple(dot_table(rows, whole[i], whole[j]) // (2 if i == j else 1)
                            for i in range(n) for j in range(i, n))
                key = (squares + (m,), own)
                if best[0] is None or key < best[0]:
                    best[0] = key

    go((), ())
    return best[0][1]


@functools.cache
def given_numbers(coefficients, most):
    """All values from 1 to `most`, out of half the box: opposite vectors have one value."""
    *ranges, last = [range(-b, b + 1) for b in box(coefficients, most)]
    ranges[0] = ranges[0][len(ranges[0]) // 2:]
    square = coefficients[-1]
    found = set()
    for beginning in itertools.product(*ranges):
        low = value(coefficients, beginning + (0,))
        slope = value(coefficients, beginning + (1,)) - low - square
        found.update([low + slope * y + square * y * y for y in last])
    return {m for m in found if 1 <= m <= most}


def joined(coefficients, other):
    """The coefficients of a sum of two forms in unlike unknowns."""
    upper, lower = table(coefficients), table(other) if len(other) > 1 else ((2 * other[0],),)
    m, n = len(upper), len(upper) + len(lower)
    rows = [list(upper[i]) + [0] * (n - m) for i in range(m)] + [[0] * m + list(row) for row in lower]
    return tuple(rows[i][j] // (2 if i == j else 1) for i in range(n) for j in range(i, n))


def sums(numbers, others, most):
    """With 0 among both."""
    return {a + b for a in numbers for b in others if a + b <= most}


def diagonal_given(squares, most):
    """The numbers from 1 to `most` that a1 x1 x1 + a2 x2 x2 + .. gives."""
    found = {0}
    for a in squares:
        found = sums(found, [a * x * x for x in range(math.isqrt(most // a) + 1)], most)
    return found - {0}


def is_prime(number):
    return number > 1 and all(number % d for d in range(2, math.isqrt(number) + 1))


def primes_of(number):
    """The primes that divide a number other than 0."""
    number, found, d = abs(number), [], 2
    while d * d <= number:
        while number % d == 0:
            found.append(d)
            number //= d
        d += 1
    return sorted(set(found + ([number] if number > 1 else [])))


def without_squares(number, p):
    """The number without the squares of a prime in it: at the prime it has the same signs."""
    while number % (p * p) == 0:
        number //= p * p
    return number


def is_square_by_rests(number, p):
    """By trying all rests: a square at p, if a square leaves the rest by a power of p that is high enough."""
    if p == 0:
        return number > 0
    power, left = 0, number
    while left % p == 0:
        power, left = power + 1, left // p
    modulus = p ** (power + (3 if p == 2 else 1))
    return any((x * x - number) % modulus == 0 for x in range(modulus))


def sign_by_rests(a, b, p):
    """By trying all rests: 1 if a x x + b y y = z z leaves the same rest by a high power of p, not all divisible by p.

    A solution with a number that p does not divide goes on to all powers, if it is one by p ** 3, by 2 ** 5 for 2.
    """
    if p == 0:
        return -1 if a < 0 and b < 0 else 1
    a, b = without_squares(a, p), without_squares(b, p)
    modulus = 2 ** 5 if p == 2 else p ** 3
    every, units = {}, {}
    for z in range(modulus):
        every[z * z % modulus] = True
        if z % p:
            units[z * z % modulus] = True
    for x in {x * x % modulus for x in range(modulus)}:
        for y in every:
            rest = (a * x + b * y) % modulus
            if rest in units or rest in every and (x in units or y in units):
                return 1
    return -1


def diagonal_by_fractions(coefficients):
    """Numbers a1, a2, .. for which the form becomes a1 y1 y1 + a2 y2 y2 .. over fractions, with whole a's."""
    rows = [[Fraction(x, 2) for x in row] for row in table(coefficients)]
    n = len(rows)
    out = []
    while rows:
        size = len(rows)
        at = next((i for i in range(size) if rows[i][i]), None)
        if at is None:
            i, j = next((i, j) for i in range(size) for j in range(size) if rows[i][j])
            for k in range(size):
                rows[i][k] += rows[j][k]
            for k in range(size):
                rows[k][i] += rows[k][j]
            at = i
        a = rows[at][at]
        out.append(a.numerator * a.denominator)
        rest = [i for i in range(size) if i != at]
        rows = [[rows[i][j] - rows[i][at] * rows[at][j] / a for j in rest] for i in rest]
    assert len(out) == n
    return out


def split(number, p):
    power = 0
    while number % p == 0:
        number, power = number // p, power + 1
    return power, number


def sign_by_rule(a, b, p):
    """By the rule that the document tells in brackets."""
    if p == 0:
        return -1 if a < 0 and b < 0 else 1
    (i, u), (j, v) = split(a, p), split(b, p)
    if p == 2:
        return (-1) ** (((u - 1) // 2 * ((v - 1) // 2) + i * ((v * v - 1) // 8) + j * ((u * u - 1) // 8)) % 2)

    def by(number):
        return 1 if pow(number, (p - 1) // 2, p) == 1 else -1

    return by(-1) ** (i * j) * by(u) ** j * by(v) ** i


def is_square_by_rule(number, p):
    if p == 0:
        return number > 0
    power, u = split(number, p)
    return power % 2 == 0 and (u % 8 == 1 if p == 2 else pow(u, (p - 1) // 2, p) == 1)


def nought_by_rests(numbers, p):
    """Whether a1 y1 y1 + a2 y2 y2 .. gives nought at a prime: by all rests by 32, or by the square of an odd prime.

    Squares of the prime are taken out of the a's first; a solution with a number that p does not divide goes on then.
    """
    modulus = 32 if p == 2 else p * p
    squares = {(y * y % modulus, y % p != 0) for y in range(modulus)}
    reached = {(0, False)}
    for a in numbers:
        lean = without_squares(a, p) % modulus
        reached = {((rest + lean * square) % modulus, some or unit) for rest, some in reached for square, unit in squares}
    return (0, True) in reached


def nought_by_rule(numbers, p):
    """By what the document tells in brackets."""
    if p == 0:
        return min(numbers) < 0 < max(numbers)
    d = math.prod(numbers)
    s = math.prod(sign_by_rule(a, b, p) for a, b in itertools.combinations(numbers, 2))
    if len(numbers) == 2:
        return is_square_by_rule(-d, p)
    if len(numbers) == 3:
        return s == sign_by_rule(-1, -d, p)
    if len(numbers) == 4:
        return not is_square_by_rule(d, p) or s == sign_by_rule(-1, -1, p)
    return True


def barring_by_rule(numbers, most, measure=None):
    """The least place up to `most`, or else among the primes of the measure, at which nought is not given.

    The measure is that of a sum of squares if it is not told.
    """
    if not nought_by_rule(numbers, 0):
        return 0
    parts = numbers if measure is None else [2 * measure]
    primes = sorted({p for p in range(2, most + 1) if is_prime(p)} | {p for a in parts for p in primes_of(a)})
    return next((p for p in primes if not nought_by_rule(numbers, p)), None)
