"""Primes, powers of them, squares, and rests of squares."""

from math import isqrt

WITNESSES = (2, 3, 5, 7, 11)


def power_rest(base, exponent, modulus):
    """The rest of a power, by squaring."""
    rest = 1
    square = base % modulus
    while exponent > 0:
        if exponent % 2 == 1:
            rest = rest * square % modulus
        square = square * square % modulus
        exponent = exponent // 2
    return rest


def split_power(number, prime):
    """How often the prime divides a number other than 0, and what is left of it."""
    exponent = 0
    while number % prime == 0:
        number = number // prime
        exponent = exponent + 1
    return exponent, number


def is_passed(number, witness):
    """Whether an odd number stands the test of Miller and Rabin with this witness."""
    twos, odd = split_power(number - 1, 2)
    rest = power_rest(witness, odd, number)
    if rest == 1:
        return True
    for _ in range(twos):
        if rest == number - 1:
            return True
        rest = rest * rest % number
    return False


def is_prime(number):
    """For numbers up to 2 * 10 ** 12 the test is exact: no other one stands it with all these witnesses (Jaeschke)."""
    if number < 2:
        return False
    for witness in WITNESSES:
        if number % witness == 0:
            return number == witness
    return all([is_passed(number, witness) for witness in WITNESSES])


def next_prime(number):
    """The least prime above the number."""
    prime = number + 1
    while not is_prime(prime):
        prime = prime + 1
    return prime


def prime_divisors(number):
    """All primes that divide a number other than 0, ascending."""
    rest = abs(number)
    primes = []
    prime = 2
    while prime * prime <= rest:
        if rest % prime == 0:
            primes.append(prime)
            rest = split_power(rest, prime)[1]
        prime = prime + 1 if prime == 2 else prime + 2
    if rest > 1:
        primes.append(rest)
    return primes


def is_square(number):
    """Whether an integer is the square of one."""
    return number >= 0 and isqrt(number) ** 2 == number


def is_square_rest(number, prime):
    """Whether a number that an odd prime does not divide leaves the rest of a square by it (Euler)."""
    return power_rest(number, prime // 2, prime) == 1
