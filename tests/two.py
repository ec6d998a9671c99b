"""What the tests of forms in two unknowns compare with: plain ways, found by trying."""

import functools
import itertools
import math

LEAST, MOST = -10 ** 5, 1000


def is_discriminant(d):
    return LEAST <= d <= MOST and d % 4 in (0, 1) and not (d >= 0 and math.isqrt(d) ** 2 == d)


def discriminants(least, most):
    return [d for d in range(least, most + 1) if is_discriminant(d)]


def discriminant(row):
    a, b, c = row
    return b * b - 4 * a * c


def value(row, x, y):
    a, b, c = row
    return a * x * x + b * x * y + c * y * y


def acted(row, change):
    """The changed form, by its values."""
    (p, q), (r, s) = change
    first, last = value(row, p, r), value(row, q, s)
    return first, value(row, p + q, r + s) - first - last, last


def is_primitive(row):
    return math.gcd(*row) == 1


def is_reduced(row):
    """As [15] says it; the root is no integer, and decimals are exact enough for it here."""
    a, b, c = row
    d = discriminant(row)
    if d < 0:
        return -a < b <= a <= c and (b >= 0 or a != c)
    w = math.sqrt(d)
    return 0 < b < w and w - b < 2 * abs(a) < w + b


def all_reduced(d):
    """All reduced forms, primitive or not, out of all small coefficients."""
    most = math.isqrt(abs(d)) + 1
    rows = []
    for a in range(1 if d < 0 else -most, most + 1):
        for b in range(-most, most + 1):
            if a and (b * b - d) % (4 * a) == 0:
                row = (a, b, (b * b - d) // (4 * a))
                if is_reduced(row):
                    rows.append(row)
    return rows


def behind(row):
    """The form behind a mixed reduced one, by the rule of [15]."""
    a, b, c = row
    d = discriminant(row)
    w = math.sqrt(d)
    found = [e for e in range(-40, 40) if (b + e) % (2 * c) == 0 and w - 2 * abs(c) < e < w]
    assert len(found) == 1
    return c, found[0], (found[0] ** 2 - d) // (4 * c)


def rings(d):
    """The rings of all reduced forms, each with its least form first."""
    found = []
    seen = set()
    for row in sorted(all_reduced(d)):
        if row not in seen:
            one = [row]
            while d > 0 and behind(one[-1]) != one[0]:
                one.append(behind(one[-1]))
            found.append(one)
            seen.update(one)
    return found


def leaders(d):
    """The leading forms of all primitive classes."""
    return [one[0] for one in rings(d) if is_primitive(one[0])]


def leader_of(row):
    """The leading form of the class: by additions and swaps until a reduced one is met."""
    reached = reduced_one(row)
    if discriminant(row) < 0:
        return reached
    one = [reached]
    while behind(one[-1]) != reached:
        one.append(behind(one[-1]))
    return min(one)


def small_one(row):
    """By the nearest additions, and swaps, as long as they make the first coefficient smaller."""
    a, b, c = row
    while True:
        k = -((b + abs(a)) // (2 * a)) if a > 0 else (b + abs(a)) // (-2 * a)
        a, b, c = acted((a, b, c), ((1, k), (0, 1)))
        if abs(c) >= abs(a):
            return a, b, c
        a, b, c = c, -b, a


def reduced_one(row):
    """A reduced form that additions of 1 and swaps reach from a small one, the nearest first."""
    known = [small_one(row)]
    seen = set(known)
    for one in known:
        if is_reduced(one):
            return one
        for change in (((1, 1), (0, 1)), ((1, -1), (0, 1)), ((0, -1), (1, 0))):
            other = acted(one, change)
            if other not in seen:
                seen.add(other)
                known.append(other)
    raise AssertionError(row)


def completed(x, y):
    """A proper change with these numbers, without a common divisor, in its first column."""
    for r, s in itertools.product(range(-abs(y) - 1, abs(y) + 2), range(-abs(x) - 1, abs(x) + 2)):
        if x * s - y * r == 1:
            return (x, r), (y, s)
    raise AssertionError((x, y))


@functools.lru_cache
def vectors(size):
    """All vectors of two numbers without a common divisor, the small ones first."""
    rows = [v for v in itertools.product(range(-size, size + 1), repeat=2) if math.gcd(*v) == 1]
    return sorted(rows, key=lambda v: (max(map(abs, v)), v))


def product(row, other):
    """A form of the product of both classes, as [16] says it: first coefficients without a common divisor, one middle.

    The middle coefficient that fits both is found by trying.
    """
    a, b, _ = row
    d = discriminant(row)
    for x, y in vectors(30):
        second = value(other, x, y)
        if second and math.gcd(a, second) == 1:
            a2, b2, _ = acted(other, completed(x, y))
            assert a2 == second
            for k in range(abs(a2)):
                both = b + 2 * a * k
                if (both - b2) % (2 * a2) == 0:
                    return a * a2, both, (both ** 2 - d) // (4 * a * a2)
    raise AssertionError((row, other))


def legendre(number, p):
    """By Euler's rule."""
    rest = pow(number, (p - 1) // 2, p)
    return -1 if rest == p - 1 else rest


def kronecker(d, n):
    """The character of a discriminant at an integer from 1 on."""
    out = 1
    p = 2
    while n > 1:
        p = p if p * p <= n else n
        while n % p == 0:
            n //= p
            out *= (0 if d % 2 == 0 else 1 if d % 8 == 1 else -1) if p == 2 else legendre(d, p)
        p += 1
    return out


def is_fundamental(d):
    if d % 4 == 1:
        return all(d % (k * k) for k in range(2, math.isqrt(abs(d)) + 1))
    return d // 4 % 4 in (2, 3) and all(d // 4 % (k * k) for k in range(2, math.isqrt(abs(d)) + 1))


def some_proper(source, steps):
    """A proper change of additions."""
    (p, q), (r, s) = (1, 0), (0, 1)
    for _ in range(steps):
        k = source.choice((-3, -2, -1, 1, 2, 3))
        if source.random() < 0.5:
            p, q, r, s = p, q + k * p, r, s + k * r
        else:
            p, q, r, s = p + k * q, q, r + k * s, s
    assert p * s - q * r == 1
    return (p, q), (r, s)
