"""The sign of two integers at a place, and squares there ([11])."""

import itertools

from formworld.errors import InvalidNumber, InvalidPlace
from formworld.signs import is_square_at, odd_places, sign
from tests import reference
from tests.cases import Case, NO_INTEGERS

TOP = 10 ** 9
GREAT_PRIMES = (999983, 1000003, 2147483647, 999999937, 1000000007, 999999999989, 999999999961)
# The last two stand the tests of Fermat and of Miller and Rabin with many bases.
NO_PRIMES = (1, 4, 6, 8, 9, 15, 25, 49, 91, 121, 169, 561, 1105, 1729, 2047, 1373653, 25326001, 999999999999, 10 ** 12,
             10 ** 12 - 1, 999983 ** 2, 999983 * 1000003, 2 * 499999999979, 3215031751, 341550071728321)
NO_PLACES = NO_INTEGERS + (-1, -2, -3, -7, 10 ** 12 + 39, 10 ** 12 + 61, 10 ** 79, -10 ** 79) + NO_PRIMES
NO_NUMBERS = NO_INTEGERS + (0, TOP + 1, -TOP - 1, 10 ** 79, -10 ** 79)


class SignTest(Case):

    def test_examples(self):
        self.assertEqual([sign(-1, -1, 0), sign(-1, -1, 2), sign(-1, -1, 3), sign(2, 5, 5), sign(2, 5, 2),
                          odd_places(-1, -1), odd_places(2, 5), odd_places(1, 7), odd_places(3, -1)],
                         [-1, -1, 1, -1, -1, (0, 2), (2, 5), (), (2, 3)])
        self.assertEqual(sign(place=5, other=5, number=2), -1)
        self.assertEqual(odd_places(other=5, number=2), (2, 5))
        self.refused_both(InvalidPlace, {"given": 4}, sign, number=2, other=5, place=4)

    def test_against_rests(self):
        """All square classes at small primes, with powers of the prime of both parities."""
        for p, numbers in ((2, (1, 3, 5, 7, -1, -3)), (3, (1, 2, -1, 5)), (5, (1, 2, 3, -1)), (7, (1, 3, -1, 5))):
            for left, right in itertools.product(numbers, repeat=2):
                for i, j in itertools.product((0, 1), repeat=2):
                    a, b = left * p ** i, right * p ** j
                    wanted = reference.sign_by_rests(a, b, p)
                    self.assertEqual(sign(a, b, p), wanted, (a, b, p))
                    for k, m in ((2, 0), (0, 2), (2, 4)):
                        self.assertEqual(sign(a * p ** k, b * p ** m, p), wanted, (a, b, p))

    def test_small_numbers_against_rests(self):
        numbers = [m for m in range(-30, 31) if m]
        for p in (0, 2, 3):
            for a, b in itertools.product(numbers, repeat=2):
                self.assertEqual(sign(a, b, p), reference.sign_by_rests(a, b, p), (a, b, p))

    def test_the_place_nought(self):
        for a, b in itertools.product((1, 5, TOP, -1, -7, -TOP), repeat=2):
            self.assertEqual(sign(a, b, 0), -1 if a < 0 and b < 0 else 1)

    def test_great_primes(self):
        for p in GREAT_PRIMES:
            rests = {u: pow(u, (p - 1) // 2, p) == 1 for u in (-1, 2, 3, 5, 7, TOP, -TOP)}
            for u, v in itertools.product(rests, repeat=2):
                self.assertEqual(sign(u, v, p), 1)
            if p <= TOP:
                for u, square in rests.items():
                    self.assertEqual(sign(p, u, p), 1 if square else -1)
                    self.assertEqual(sign(u, -p, p), 1 if square else -1)
                self.assertEqual(sign(p, p, p), 1 if rests[-1] else -1)
                self.assertEqual(sign(p, -p, p), 1)

    def test_rules(self):
        source = reference.source(50)
        for span in (20, 1000, 10 ** 4):
            for _ in range(60):
                a, b, c = (source.choice((-1, 1)) * source.randint(1, span) for _ in range(3))
                for p in (0, 2, 3, 5, 7, 11, 13, 9973):
                    self.assertIn(sign(a, b, p), (1, -1))
                    self.assertEqual(sign(a, b, p), sign(b, a, p))
                    self.assertEqual(sign(a, b * c, p), sign(a, b, p) * sign(a, c, p))
                    self.assertEqual(sign(a, -a, p), 1)
                    self.assertEqual(sign(a, c * c, p), 1)
                    if a != 1:
                        self.assertEqual(sign(a, 1 - a, p), 1)

    def test_bounds_are_let(self):
        for a, b in itertools.product((TOP, -TOP, 1, -1), repeat=2):
            for p in (0, 2, 5, 999999999989):
                self.assertIn(sign(a, b, p), (1, -1))
        self.assertEqual(sign(TOP, -TOP, 5), 1)


class OddPlacesTest(Case):

    def test_against_all_places(self):
        for a, b in itertools.product([m for m in range(-25, 26) if m], repeat=2):
            primes = reference.primes_of(2 * a * b)
            wanted = tuple(p for p in [0] + primes if sign(a, b, p) == -1)
            self.assertEqual(odd_places(a, b), wanted)
            self.assertEqual(odd_places(a, b), odd_places(b, a))
            self.assertEqual(len(wanted) % 2, 0)

    def test_against_rests(self):
        for a, b in itertools.product((-12, -10, -7, -6, -5, -3, -2, -1, 1, 2, 3, 5, 6, 7, 14, 15, 20), repeat=2):
            self.assertEqual(odd_places(a, b), tuple(p for p in (0, 2, 3, 5, 7) if reference.sign_by_rests(a, b, p) == -1))

    def test_great_numbers(self):
        source = reference.source(51)
        for _ in range(200):
            a, b = (source.choice((-1, 1)) * source.randint(1, TOP) for _ in range(2))
            found = odd_places(a, b)
            self.assertIs(type(found), tuple)
            self.assertEqual(len(found) % 2, 0, (a, b))
            self.assertEqual(list(found), sorted(set(found)))
            self.assertEqual(found, odd_places(b, a))
            self.assertEqual(0 in found, a < 0 and b < 0)
            for p in found:
                self.assertEqual(sign(a, b, p), -1)
            for p in set(reference.primes_of(a) + reference.primes_of(b) + [2]) - set(found):
                self.assertEqual(sign(a, b, p), 1)
        self.assertEqual(odd_places(TOP, TOP), odd_places(10, 10))
        self.assertEqual(odd_places(-999999937, -1), odd_places(-1, -999999937))
        self.assertEqual(odd_places(3, 999999937), () if pow(3, 999999936 // 2, 999999937) == 1 else (3, 999999937))

    def test_solutions(self):
        """Where there is a solution in integers, no place is odd."""
        for x, y, z in itertools.product(range(1, 6), range(1, 6), range(1, 12)):
            for a in (-3, 2, 7):
                rest = z * z - a * x * x
                if rest % (y * y) == 0 and rest:
                    self.assertEqual(odd_places(a, rest // (y * y)), ())


class SquareTest(Case):

    def test_examples(self):
        self.assertEqual([is_square_at(17, 2), is_square_at(-1, 5), is_square_at(3, 0), is_square_at(2, 3),
                          is_square_at(12, 3), is_square_at(9, 3)], [True, True, True, False, False, True])
        self.assertIs(is_square_at(place=3, number=9), True)

    def test_against_rests(self):
        for p, span in ((0, 100), (2, 160), (3, 100), (5, 60), (7, 60), (11, 40)):
            for number in range(-span, span + 1):
                if number:
                    self.assertIs(is_square_at(number, p), reference.is_square_by_rests(number, p), (number, p))

    def test_whole_squares(self):
        for root in (1, 2, 3, 12, 35, 1000, 31622):
            for p in (0, 2, 3, 5, 7, 31, 999999999989):
                self.assertTrue(is_square_at(root * root, p))

    def test_great_primes(self):
        for p in GREAT_PRIMES:
            for number in (-1, 2, 3, 5, TOP, -TOP, 999999937):
                if number % p:
                    self.assertIs(is_square_at(number, p), pow(number, (p - 1) // 2, p) == 1)
            if p <= TOP:
                self.assertFalse(is_square_at(p, p))
                self.assertFalse(is_square_at(-p, p))

    def test_powers_of_two(self):
        for power in range(0, 26):
            for left in (1, 3, 5, 7, -1, 9, 17, -7):
                wanted = power % 2 == 0 and left % 8 == 1
                self.assertIs(is_square_at(left * 2 ** power, 2), wanted, (power, left))


class RefusedTest(Case):

    def test_numbers(self):
        for given in NO_NUMBERS:
            self.refused_both(InvalidNumber, {"given": given}, sign, number=given, other=1, place=2)
            self.refused_both(InvalidNumber, {"given": given}, sign, number=1, other=given, place=2)
            self.refused_both(InvalidNumber, {"given": given}, sign, number=given, other=[], place=4)
            self.refused_both(InvalidNumber, {"given": given}, sign, number=1, other=given, place=4)
            self.refused_both(InvalidNumber, {"given": given}, odd_places, number=given, other=1)
            self.refused_both(InvalidNumber, {"given": given}, odd_places, number=1, other=given)
            self.refused_both(InvalidNumber, {"given": given}, odd_places, number=given, other=0)
            self.refused_both(InvalidNumber, {"given": given}, is_square_at, number=given, place=2)
            self.refused_both(InvalidNumber, {"given": given}, is_square_at, number=given, place=None)

    def test_places(self):
        for given in NO_PLACES:
            self.refused_both(InvalidPlace, {"given": given}, sign, number=1, other=TOP, place=given)
            self.refused_both(InvalidPlace, {"given": given}, is_square_at, number=-TOP, place=given)

    def test_all_small_places(self):
        for place in range(0, 2000):
            if place == 0 or reference.is_prime(place):
                self.assertIn(sign(3, 5, place), (1, -1))
            else:
                self.refused(InvalidPlace, {"given": place}, sign, 3, 5, place)

    def test_great_places(self):
        for place in range(999000, 999100):
            if reference.is_prime(place):
                self.assertIn(is_square_at(3, place), (True, False))
            else:
                self.refused(InvalidPlace, {"given": place}, is_square_at, 3, place)
        for place in GREAT_PRIMES:
            self.assertTrue(reference.is_prime(place))
            self.assertIn(is_square_at(3, place), (True, False))
