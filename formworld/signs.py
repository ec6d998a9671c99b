"""The sign of two integers at a place, and squares there."""

from formworld.checks import check_other_than_nought
from formworld.primes import is_square_rest, prime_divisors, split_power
from formworld.requirements import require_place

MOST_OPERAND = 10 ** 9


def sign(number, other, place):
    """The sign of the two numbers at the place, 1 or -1."""
    check_other_than_nought(number, MOST_OPERAND)
    check_other_than_nought(other, MOST_OPERAND)
    require_place(place)
    return sign_at(number, other, place)


def odd_places(number, other):
    """The places at which the sign is -1, ascending."""
    check_other_than_nought(number, MOST_OPERAND)
    check_other_than_nought(other, MOST_OPERAND)
    places = sorted(set([0, 2] + prime_divisors(number) + prime_divisors(other)))
    return tuple([place for place in places if sign_at(number, other, place) == -1])


def is_square_at(number, place):
    """Whether the number is a square at the place."""
    check_other_than_nought(number, MOST_OPERAND)
    require_place(place)
    return is_local_square(number, place)


def sign_at(number, other, place):
    """The sign of integers of any size, at what surely is a place."""
    if place == 0:
        return -1 if number < 0 and other < 0 else 1
    power, left = split_power(number, place)
    other_power, right = split_power(other, place)
    if place == 2:
        odd = (left // 2) * (right // 2) + power * (right * right // 8) + other_power * (left * left // 8)
    else:
        odd = power * other_power * (place // 2)
        odd = odd + other_power * odd_for(left, place) + power * odd_for(right, place)
    return -1 if odd % 2 == 1 else 1


def odd_for(number, prime):
    """1 if the number leaves no rest of a square by the odd prime, otherwise 0."""
    return 0 if is_square_rest(number, prime) else 1


def is_local_square(number, place):
    """The same for integers of any size, at what surely is a place."""
    if place == 0:
        return number > 0
    power, left = split_power(number, place)
    if power % 2 == 1:
        return False
    return left % 8 == 1 if place == 2 else is_square_rest(left, place)
