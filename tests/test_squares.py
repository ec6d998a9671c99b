"""Sums of two, three and four squares, and weighted class numbers ([22])."""

import math
from fractions import Fraction

from formworld.errors import InvalidNumber
from formworld.squares import count_squares, squares_for, weighted_classes
from tests import two
from tests.cases import Case, NO_INTEGERS

MOST = 900
GREAT = (9973, 9984, 9991, 9996, 9997, 9998, 9999, 10000)


def counts_by_trying(many, most):
    """How many tuples of so many integers have squares that add up to each number."""
    squares = [x * x for x in range(-math.isqrt(most), math.isqrt(most) + 1)]
    counts = [1] + [0] * most
    for _ in range(many):
        sums = [0] * (most + 1)
        for number, times in enumerate(counts):
            if times:
                for square in squares:
                    if number + square <= most:
                        sums[number + square] += times
        counts = sums
    return counts


def weighted(number):
    """By all small coefficients, as [15] and [22] say it."""
    total = Fraction(0)
    for b in range(-math.isqrt(number), math.isqrt(number) + 1):
        for a in range(max(1, abs(b)), math.isqrt(number) + 1):
            if (b * b + number) % (4 * a) == 0:
                row = (a, b, (b * b + number) // (4 * a))
                if two.is_reduced(row):
                    a, b, c = row
                    total += Fraction(1, 2) if (b, c) == (0, a) else Fraction(1, 3) if a == b == c else 1
    return total


class SquaresTest(Case):

    def test_examples(self):
        self.assertEqual([count_squares(2, 25), count_squares(3, 3), count_squares(4, 5), count_squares(3, 7),
                          count_squares(2, 0), count_squares(3, 9), squares_for(2, 7), squares_for(2, 13),
                          squares_for(3, 3), squares_for(4, 7)],
                         [12, 8, 48, 0, 1, 30, None, (2, 3), (1, 1, 1), (1, 1, 1, 2)])
        self.assertEqual((count_squares(number=25, many=2), squares_for(number=13, many=2)), (12, (2, 3)))

    def check_told(self, many, number, some):
        told = squares_for(many, number)
        if not some:
            self.assertIsNone(told, (many, number))
            return
        self.assertIs(type(told), tuple)
        self.assertEqual([type(root) for root in told], [int] * many)
        self.assertEqual(sum(root * root for root in told), number)
        self.assertEqual(list(told), sorted(told))
        self.assertGreaterEqual(told[0], 0)
        self.assertEqual(squares_for(many, number), told)

    def test_against_squares(self):
        for many in (2, 3, 4):
            counts = counts_by_trying(many, MOST)
            for number in range(MOST + 1):
                self.assertEqual(count_squares(many, number), counts[number], (many, number))
                self.check_told(many, number, counts[number] > 0)

    def test_great_numbers(self):
        for number in GREAT:
            pairs = {rest: 0 for rest in range(number + 1)}
            for x in range(-100, 101):
                for y in range(-100, 101):
                    if x * x + y * y <= number:
                        pairs[x * x + y * y] += 1
            counts = {2: pairs[number], 3: sum(pairs.get(number - x * x, 0) for x in range(-100, 101)),
                      4: sum(pairs[k] * pairs[number - k] for k in pairs)}
            for many, count in counts.items():
                self.assertEqual(count_squares(many, number), count, (many, number))
                self.check_told(many, number, count > 0)

    def test_nought(self):
        self.assertEqual([count_squares(many, 0) for many in (2, 3, 4)], [1, 1, 1])
        self.assertEqual([squares_for(many, 0) for many in (2, 3, 4)], [(0, 0), (0, 0, 0), (0, 0, 0, 0)])

    def test_known_rules(self):
        """Four squares give all; three all but 4 ** a (8 b + 7)."""
        for number in range(0, 10001, 7):
            self.check_told(4, number, True)
            self.assertGreater(count_squares(4, number), 0)
            left = number
            while left and left % 4 == 0:
                left //= 4
            self.check_told(3, number, left % 8 != 7)
            self.assertEqual(count_squares(3, number) > 0, left % 8 != 7)

    def test_wrong_many(self):
        for given in NO_INTEGERS + (0, 1, 5, -2, 10 ** 79):
            for number in (1, 0, -1, None):
                self.refused_both(InvalidNumber, {"given": given}, count_squares, many=given, number=number)
                self.refused_both(InvalidNumber, {"given": given}, squares_for, many=given, number=number)

    def test_wrong_numbers(self):
        for given in NO_INTEGERS + (-1, -4, 10001, 10 ** 79):
            for many in (2, 3, 4):
                self.refused_both(InvalidNumber, {"given": given}, count_squares, many=many, number=given)
                self.refused_both(InvalidNumber, {"given": given}, squares_for, many=many, number=given)


class WeightedTest(Case):

    def test_examples(self):
        self.assertEqual([weighted_classes(3), weighted_classes(4), weighted_classes(20), weighted_classes(23),
                          weighted_classes(12), weighted_classes(5), weighted_classes(36)],
                         [(1, 3), (1, 2), (2, 1), (3, 1), (4, 3), (0, 1), (5, 2)])
        self.assertEqual(weighted_classes(number=3), (1, 3))

    def check(self, number):
        top, bottom = weighted_classes(number)
        wanted = weighted(number)
        self.assertEqual((type(top), type(bottom)), (int, int))
        self.assertEqual((top, bottom), (wanted.numerator, wanted.denominator), number)

    def test_against_all_reduced_forms(self):
        for number in list(range(1, 400)) + [675, 972, 1024, 1296, 2700, 3600, 3675, 4800]:
            self.check(number)

    def test_great_numbers(self):
        for number in GREAT + (9747, 9075, 9408, 9604, 9801, 9900, 10000, 7500):
            self.check(number)

    def test_no_discriminant(self):
        for number in range(1, 10001):
            if number % 4 in (1, 2):
                self.assertEqual(weighted_classes(number), (0, 1))

    def test_three_squares_by_classes(self):
        """Gauss and Hurwitz: 12 * (H(4 n) - 2 * H(n))."""
        for number in range(1, 2501):
            told = 12 * (Fraction(*weighted_classes(4 * number)) - 2 * Fraction(*weighted_classes(number)))
            self.assertEqual(count_squares(3, number), told, number)

    def test_two_and_four_squares_by_divisors(self):
        for number in list(range(1, 300)) + list(GREAT):
            divisors = [d for d in range(1, number + 1) if number % d == 0]
            told = 4 * sum((1 if d % 4 == 1 else -1) for d in divisors if d % 2)
            self.assertEqual(count_squares(2, number), told)
            self.assertEqual(count_squares(4, number), 8 * sum(d for d in divisors if d % 4))

    def test_wrong_numbers(self):
        for given in NO_INTEGERS + (0, -3, 10001, 10 ** 79, (3,)):
            self.refused_both(InvalidNumber, {"given": given}, weighted_classes, number=given)
