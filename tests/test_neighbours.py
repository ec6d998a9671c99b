"""Rich numbers and neighbours ([20])."""

import functools
import itertools
import math

from formworld.errors import InvalidNumber, InvalidPrimes
from formworld.neighbours import count_rich, is_rich, neighbours
from tests import reference
from tests.cases import Case, NO_INTEGERS

PRIMES = (2, 3, 5, 7, 11, 13, 17, 19, 23, 29, 31)
EVERY = [row for many in (1, 2, 3, 4) for row in itertools.combinations(PRIMES, many)]
NO_PRIMES = [(given, None) for given in NO_INTEGERS if not isinstance(given, tuple)] + [
    ((), None), ([2, 3], None), ((1,), 0), ((0,), 0), ((-2,), 0), ((4,), 0), ((37,), 0), ((True,), 0), (("2",), 0),
    ((10 ** 79,), 0), ((None, 1), 0), ((2, 2), 1), ((3, 2), 1), ((2, 4), 1), ((2, 3, 9), 2), ((2, 3, 3), 2),
    ((2, 5, 3), 2), ((2, 3, 5, 6), 3), ((2, 3, 5, 5), 3), ((2, 3, 5, 7, 11), 4), ((2, 3, 5, 7, 1), 4),
    ((2, 3, 5, 7, 11, 13), 4), ((2, 3, 5, 7, "x"), 4), ((2, 3, 1, 7, 11), 2), ((5, 37), 1), ((31, 37), 1),
    ((2, True), 1), ((2, (3,)), 1), ((2, 3, 5, 7, True), 4), ((31, 29), 1), ((1, 2, 3, 4, 5), 0),
]


def rich(primes, number):
    for p in primes:
        while number % p == 0:
            number //= p
    return number == 1


def least_pell(q):
    """The least x, y above 0 with x x - q y y = 1, by the continued fraction of the root."""
    root = math.isqrt(q)
    p, s, before, now = 0, 1, (0, 1), (1, 0)
    while True:
        a = (p + root) // s
        before, now = now, (a * now[0] + before[0], a * now[1] + before[1])
        p = a * s - p
        s = (q - p * p) // s
        if now[0] ** 2 - q * now[1] ** 2 == 1:
            return now


@functools.cache
def by_stormer():
    """All n for which n and n + 1 are rich for at most four primes up to 31, with the set of these primes.

    (2 n + 1) ** 2 - q y y = 1 for a product q of some of the primes, each once, and a y that no other prime divides;
    only the first powers can be so, the least one among them if any is (Stormer, Lehmer).
    """
    found = {}
    for row in EVERY:
        q = math.prod(row)
        x, y = first = least_pell(q)
        if not rich(PRIMES, y):
            continue
        for _ in range(16):
            n = (x - 1) // 2
            if x % 2 and rich(PRIMES, n) and rich(PRIMES, n + 1):
                found[n] = {p for p in PRIMES if n * (n + 1) % p == 0}
            x, y = x * first[0] + q * y * first[1], x * first[1] + y * first[0]
    return found


class RichTest(Case):

    def test_examples(self):
        self.assertEqual([is_rich((2, 5), 10 ** 30), is_rich((2,), 12), count_rich((2, 3), 20)], [True, False, 10])
        self.assertIs(is_rich(number=12, primes=(2, 3)), True)
        self.assertEqual(count_rich(most=20, primes=(2, 3)), 10)

    def test_small_numbers(self):
        for primes in EVERY[::9] + [(2,), (2, 3), (2, 3, 5, 7), (31,), (23, 29, 31)]:
            for number in range(1, 400):
                self.assertIs(is_rich(primes, number), rich(primes, number))

    def test_great_numbers(self):
        top = 10 ** 30
        self.assertTrue(is_rich((2,), 2 ** 99))
        self.assertTrue(is_rich((31,), 31 ** 20))
        self.assertTrue(is_rich((2, 3, 5, 7), 2 ** 30 * 3 ** 20 * 5 ** 10 * 7 ** 2))
        for primes in EVERY[::5]:
            number = 1
            k = 0
            while number * primes[k % len(primes)] <= top:
                number *= primes[k % len(primes)]
                k += 1
            self.assertIs(is_rich(primes, number), True)
            self.assertIs(is_rich(primes, number + 1), rich(primes, number + 1))
            others = [p for p in PRIMES + (37, 999983) if p not in primes]
            for p in others:
                self.assertIs(is_rich(primes, number // primes[0] * p if number // primes[0] * p <= top else p), False)

    def test_counts(self):
        for primes in EVERY[::7] + [(2,), (2, 3), (2, 3, 5, 7), (31,)]:
            numbers = [number for number in range(1, 3001) if rich(primes, number)]
            for most in (0, 1, 2, 3, 10, 31, 100, 961, 1000, 2999, 3000):
                self.assertEqual(count_rich(primes, most), len([number for number in numbers if number <= most]))

    def test_counts_step_at_rich_numbers(self):
        for primes in ((2,), (2, 3), (3, 5, 7), (2, 3, 5, 7), (11, 13, 17, 19), (2, 31)):
            for number in (64, 81, 1024, 6 ** 10, 30 ** 7, 10 ** 9, 2 ** 39, 10 ** 12, 7 ** 14, 31 ** 8, 13 ** 9):
                step = count_rich(primes, number) - count_rich(primes, number - 1)
                self.assertEqual(step, 1 if rich(primes, number) else 0)

    def test_great_counts(self):
        top = 10 ** 12
        self.assertEqual(count_rich((2,), top), 40)
        self.assertEqual(count_rich((31,), top), 9)
        for p, q in ((2, 3), (2, 31), (29, 31), (3, 5)):
            wanted = 0
            power = 1
            while power <= top:
                many = 0
                while power * q ** many <= top:
                    many += 1
                wanted += many
                power *= p
            self.assertEqual(count_rich((p, q), top), wanted)
        numbers = 0
        for a, b, c in itertools.product(range(40), range(26), range(18)):
            left = 2 ** a * 3 ** b * 5 ** c
            while left <= top:
                numbers += 1
                left *= 7
        self.assertEqual(count_rich((2, 3, 5, 7), top), numbers)


class NeighboursTest(Case):

    def test_examples(self):
        self.assertEqual([neighbours((2, 3)), neighbours((2, 3, 5)), neighbours((3, 5)), neighbours(primes=(2,))],
                         [(1, 2, 3, 8), (1, 2, 3, 4, 5, 8, 9, 15, 24, 80), (), (1,)])

    def test_against_stormer(self):
        found = by_stormer()
        self.assertGreater(len(found), 250)
        for primes in EVERY:
            got = neighbours(primes)
            self.assertIs(type(got), tuple)
            self.assertEqual(got, tuple(sorted(n for n, own in found.items() if own <= set(primes))), primes)

    def test_small_ones(self):
        for primes in EVERY[::11] + [(2, 3, 5, 7), (2, 29, 31), (2, 3, 7, 31)]:
            wanted = [n for n in range(1, 5000) if rich(primes, n) and rich(primes, n + 1)]
            self.assertEqual([n for n in neighbours(primes) if n < 5000], wanted)

    def test_none_without_two(self):
        for primes in EVERY:
            if primes[0] > 2:
                self.assertEqual(neighbours(primes), ())

    def test_known_ones(self):
        self.assertEqual(max(neighbours((2, 3, 5, 7))), 4374)
        self.assertEqual(len(neighbours((2, 3, 5, 7))), 23)


class RefusedTest(Case):

    def test_primes(self):
        for given, index in NO_PRIMES:
            self.refused_both(InvalidPrimes, {"index": index}, neighbours, primes=given)
            for number in (1, 0, None):
                self.refused_both(InvalidPrimes, {"index": index}, is_rich, primes=given, number=number)
                self.refused_both(InvalidPrimes, {"index": index}, count_rich, primes=given, most=number)

    def test_all_single_numbers(self):
        for number in range(-5, 60):
            if number in PRIMES:
                self.assertIs(is_rich((number,), number), True)
            else:
                self.refused(InvalidPrimes, {"index": 0}, is_rich, (number,), 1)

    def test_numbers(self):
        for given in NO_INTEGERS + (0, -1, 10 ** 30 + 1, 10 ** 79):
            self.refused_both(InvalidNumber, {"given": given}, is_rich, primes=(2, 3), number=given)
        for given in NO_INTEGERS + (-1, 10 ** 12 + 1, 10 ** 79):
            self.refused_both(InvalidNumber, {"given": given}, count_rich, primes=(2, 3), most=given)

    def test_bounds_are_let(self):
        self.assertTrue(is_rich((2,), 1))
        self.assertTrue(is_rich((2, 3, 5, 7), 10 ** 30))
        self.assertEqual(count_rich((2,), 0), 0)
        self.assertEqual(count_rich((2, 3, 29, 31), 1), 1)
        self.assertIsInstance(neighbours((19, 23, 29, 31)), tuple)
