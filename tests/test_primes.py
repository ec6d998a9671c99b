"""The arithmetic of primes that signs and places rest on."""

import unittest

from formworld.primes import is_prime, is_square_rest, power_rest, prime_divisors, split_power
from tests import reference


class PrimesTest(unittest.TestCase):

    def test_is_prime(self):
        for number in list(range(-5, 5000)) + list(range(10 ** 6, 10 ** 6 + 500)):
            self.assertIs(is_prime(number), reference.is_prime(number), number)
        for number in range(10 ** 12 - 40, 10 ** 12):
            self.assertIs(is_prime(number), reference.is_prime(number), number)

    def test_pretenders(self):
        """No primes, but they stand the test with one witness or several."""
        for number in (341, 561, 2047, 3277, 4033, 8911, 29341, 1373653, 1530787, 25326001, 161304001, 3215031751,
                       118670087467, 307768373641, 315962312077, 354864744877, 457453568161, 528929554561):
            self.assertFalse(is_prime(number), number)

    def test_prime_divisors(self):
        for number in list(range(1, 1000)) + [2 ** 30, 999983 ** 1, 3 * 999983, 46337 ** 2, 2 * 3 * 5 * 7 * 11 * 13]:
            self.assertEqual(prime_divisors(number), reference.primes_of(number))
            self.assertEqual(prime_divisors(-number), reference.primes_of(number))

    def test_powers(self):
        self.assertEqual([split_power(48, 2), split_power(-48, 3), split_power(7, 5), split_power(-1, 2)],
                         [(4, 3), (1, -16), (0, 7), (0, -1)])
        for base, exponent, modulus in ((3, 0, 7), (3, 100, 7), (-2, 13, 11), (10 ** 20, 10 ** 12, 999999999989)):
            self.assertEqual(power_rest(base, exponent, modulus), pow(base, exponent, modulus))

    def test_square_rests(self):
        for prime in (3, 5, 7, 11, 101):
            squares = {x * x % prime for x in range(1, prime)}
            for number in range(-prime + 1, prime):
                if number:
                    self.assertIs(is_square_rest(number, prime), number % prime in squares)


if __name__ == "__main__":
    unittest.main()
