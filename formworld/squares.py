"""Sums of two, three and four squares, and weighted class numbers."""

from math import gcd, isqrt

from formworld.checks import check_number
from formworld.grouping import positive_rows
from formworld.primes import is_square

LEAST_MANY = 2
MOST_MANY = 4
MOST_SUM = 10 ** 4


def count_squares(many, number):
    """How many tuples of so many integers have squares that add up to the number."""
    require_sum(many, number)
    if many == 2:
        return count_two(number)
    if many == 3:
        return count_two(number) + 2 * sum([count_two(number - root * root) for root in range(1, isqrt(number) + 1)])
    return count_four(number)


def squares_for(many, number):
    """Any ascending tuple of so many integers from 0 on whose squares add up to the number, None if there is none."""
    require_sum(many, number)
    return roots_for(many, number)


def weighted_classes(number):
    """The weighted class number as a fraction."""
    check_number(number, 1, MOST_SUM)
    if number % 4 not in (0, 3):
        return (0, 1)
    sixths = sum([sixths_of(row) for row in positive_rows(-number)])
    divisor = gcd(sixths, 6)
    return (sixths // divisor, 6 // divisor)


def require_sum(many, number):
    check_number(many, LEAST_MANY, MOST_MANY)
    check_number(number, 0, MOST_SUM)


def divisors_of(number):
    """All divisors from 1 on of a number above 0."""
    small = [divisor for divisor in range(1, isqrt(number) + 1) if number % divisor == 0]
    return small + [number // divisor for divisor in small if divisor * divisor != number]


def count_two(number):
    """Four times what the odd divisors make, 1 or -1 each (Jacobi)."""
    if number == 0:
        return 1
    return 4 * sum([2 - divisor % 4 for divisor in divisors_of(number) if divisor % 2 == 1])


def count_four(number):
    """Eight times the sum of the divisors that 4 does not divide (Jacobi)."""
    if number == 0:
        return 1
    return 8 * sum([divisor for divisor in divisors_of(number) if divisor % 4 != 0])


def roots_for(many, number):
    """The same without checks: the greatest integer is tried from the greatest one on."""
    if many == 1:
        return (isqrt(number),) if is_square(number) else None
    for last in range(isqrt(number), -1, -1):
        if many * last * last < number:
            return None
        roots = roots_for(many - 1, number - last * last)
        if roots is not None:
            return tuple(sorted(roots + (last,)))
    return None


def sixths_of(row):
    """How many sixths a reduced form counts: fewer if it is a multiple of x x + y y or of x x + x y + y y."""
    first, both, last = row
    if first != last:
        return 6
    if both == 0:
        return 3
    return 2 if both == first else 6
