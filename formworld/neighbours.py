"""Numbers that few small primes divide, and neighbours among them."""

from formworld.checks import check_number, is_within
from formworld.errors import InvalidPrimes
from formworld.primes import is_prime, split_power

MOST_PRIME = 31
MOST_PRIMES = 4
MOST_RICH = 10 ** 30
MOST_COUNTED = 10 ** 12
# The greatest n for which no prime above 31 divides n and n + 1 (Lehmer 1964).
LAST_NEIGHBOUR = 1611308699


def is_rich(primes, number):
    """Whether no other prime divides the number."""
    check_primes(primes)
    check_number(number, 1, MOST_RICH)
    rest = number
    for prime in primes:
        rest = split_power(rest, prime)[1]
    return rest == 1


def neighbours(primes):
    """All n for which n and n + 1 are rich, ascending."""
    check_primes(primes)
    numbers = sorted(rich_numbers(primes, LAST_NEIGHBOUR + 1))
    return tuple([number for number, behind in zip(numbers, numbers[1:]) if behind == number + 1])


def count_rich(primes, most):
    """How many integers from 1 to `most` are rich."""
    check_primes(primes)
    check_number(most, 0, MOST_COUNTED)
    return len(rich_numbers(primes, most))


def check_primes(primes):
    if not isinstance(primes, tuple) or not primes:
        raise InvalidPrimes(None)
    before = 1
    for index, prime in enumerate(primes):
        if index == MOST_PRIMES or not is_within(prime, before + 1, MOST_PRIME) or not is_prime(prime):
            raise InvalidPrimes(index)
        before = prime


def rich_numbers(primes, most):
    """All rich numbers up to `most`, in any order."""
    numbers = [1] if most > 0 else []
    for prime in primes:
        multiples = numbers
        while multiples:
            multiples = [number * prime for number in multiples if number * prime <= most]
            numbers = numbers + multiples
    return numbers
