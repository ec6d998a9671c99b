"""Vectors at which sums of two or three squares with coefficients are 0.

Three coefficients are first made free of squares and of common divisors. Then a solution, if there is any, is found
among few small numbers (Holzer).
"""

from math import gcd, isqrt

from formworld.primes import is_square


def nought_of_squares(numbers):
    """A vector without a common divisor above 1, for coefficients that give nought."""
    if len(numbers) == 2:
        return whole_vector((isqrt(-numbers[0] * numbers[1]), numbers[0]), (1, 1))
    lean, bottoms = without_squares(numbers)
    lean, tops = without_common(lean)
    vector = small_nought(lean)
    return whole_vector([number * top for number, top in zip(vector, tops)], bottoms)


def whole_vector(tops, bottoms):
    """The vector of these fractions, times what makes it whole and free of common divisors."""
    many = 1
    for bottom in bottoms:
        many = many * bottom
    vector = [top * many // bottom for top, bottom in zip(tops, bottoms)]
    divisor = 0
    for number in vector:
        divisor = gcd(divisor, number)
    return tuple([number // divisor for number in vector])


def without_squares(numbers):
    """The numbers without squares above 1 in them, and the roots of these squares."""
    lean = []
    roots = []
    for number in numbers:
        root = greatest_root(number)
        lean.append(number // (root * root))
        roots.append(root)
    return lean, roots


def greatest_root(number):
    """The greatest integer whose square divides a number other than 0."""
    root = isqrt(abs(number))
    while number % (root * root) != 0:
        root = root - 1
    return root


def without_common(numbers):
    """Three numbers without squares in them are made free of common divisors, two by two.

    What is a common divisor of two of them must divide the unknown of the third one, and goes over to its coefficient.
    The second list tells how many times its new unknown each old one is.
    """
    divisor = gcd(gcd(numbers[0], numbers[1]), numbers[2])
    lean = [number // divisor for number in numbers]
    tops = []
    for place in range(3):
        left, right = (place + 1) % 3, (place + 2) % 3
        common = gcd(lean[left], lean[right])
        lean[left] = lean[left] // common
        lean[right] = lean[right] // common
        lean[place] = lean[place] * common
        tops.append(common)
    return lean, tops


def small_nought(numbers):
    """A vector other than that of noughts at which the value is 0, for numbers without squares and common divisors.

    If there is one, there is one in which no square is greater than the product of the other two coefficients in size
    (Holzer). So the numbers for the unknowns with the two greatest coefficients are tried.
    """
    sizes = sorted([(-abs(number), place) for place, number in enumerate(numbers)])
    places = [place for _, place in sizes]
    great, middle, least = [numbers[place] for place in places]
    for first in range(isqrt(abs(middle * least)) + 1):
        for second in range(isqrt(abs(great * least)) + 1):
            left = -(great * first * first + middle * second * second)
            if left % least == 0 and is_square(left // least) and (first, second) != (0, 0):
                found = {places[0]: first, places[1]: second, places[2]: isqrt(left // least)}
                return [found[place] for place in range(3)]
