"""Nought and numbers given at a place and over fractions ([13])."""

import itertools
import math

from formworld.errors import Flat, InvalidNumber, InvalidPlace, NotAForm, TooGreat
from formworld.forms import Form
from formworld.noughts import barred_number, barring_place, gives_at, gives_nought, gives_nought_at, gives_over_fractions
from formworld.noughts import nought_vector
from tests import reference
from tests.cases import Case, NO_INTEGERS
from tests.test_places import BEYOND, FIVE, FLAT, FORMS, NO_FORMS
from tests.test_signs import NO_PLACES

CIRCLE, BALL, ROOT = Form((1, 0, 1)), Form((1, 0, 0, 1, 0, 1)), Form((1, 0, -2))
CONE, SPHERE, FOUR = Form((1, 0, 0, 1, 0, -2)), Form((1, 0, 0, 1, 0, -3)), Form((1, 0, 0, 0, 1, 0, 0, 1, 0, 1))
WIDE = Form((2, 2, 3))
PLACES = (0, 2, 3, 5, 7, 11, 13)
NUMBERS = (1, -1, 2, -2, 3, 5, -6, 7, -7, 8, 12, 18, -20, 45, 49, 50, 63, -98, 100, 121, -147, 225, 343, 720, 1000, -1000)
# Sums of squares with coefficients that have squares and common divisors in them.
DIAGONAL = ((4, 9), (-4, 9), (12, -75), (8, -18), (50, -98), (100, -1), (-100, -99), (45, -20), (49, 98, -98),
            (12, 18, -30), (100, 100, -99), (9, 25, 49), (9, 25, -49), (50, 98, -72), (75, -27, -12), (8, 8, 8, 8),
            (1, 1, -7, -7), (1, 1, 1, -7), (1, -2, 3, -6), (25, 25, -75, -75), (2, 3, 5, -30), (1, 4, 9, 16),
            (3, 3, -1, -1), (98, 50, -18, 72))


def forms():
    """Also behind changes that leave the coefficients small."""
    source = reference.source(90)
    rows = list(FORMS) + [reference.diagonal(numbers) for numbers in DIAGONAL]
    for row in list(rows):
        for steps in (1, 2):
            change, _ = reference.some_change(source, reference.unknowns(row), steps)
            skew = reference.changed(row, change)
            if max(map(abs, skew)) <= 100:
                rows.append(skew)
    return rows


def by_rests(numbers, place):
    return reference.nought_by_rule(numbers, 0) if place == 0 else reference.nought_by_rests(numbers, place)


class NoughtTest(Case):

    def test_examples(self):
        self.assertEqual([gives_nought(CONE), gives_nought(SPHERE), barring_place(SPHERE), gives_nought_at(SPHERE, 3),
                          gives_nought_at(SPHERE, 5), gives_nought_at(ROOT, 7), gives_nought_at(ROOT, 3),
                          barring_place(BALL), CONE.value(nought_vector(CONE)), nought_vector(SPHERE)],
                         [True, False, 2, False, True, True, False, 0, 0, None])
        self.assertEqual([gives_nought(form=CONE), barring_place(form=SPHERE), gives_nought_at(place=3, form=SPHERE)],
                         [True, 2, False])

    def test_against_rests(self):
        for row in forms():
            numbers = reference.diagonal_by_fractions(row)
            for place in PLACES:
                wanted = by_rests(numbers, place)
                self.assertIs(gives_nought_at(Form(row), place), wanted, (row, place))
                self.assertEqual(reference.nought_by_rule(numbers, place), wanted, (row, place))

    def test_great_places(self):
        for row in forms():
            numbers = reference.diagonal_by_fractions(row)
            for place in (89, 97, 101, 1009, 999983, 999999999989):
                self.assertIs(gives_nought_at(Form(row), place), reference.nought_by_rule(numbers, place), (row, place))

    def test_least_place(self):
        for row in forms():
            numbers = reference.diagonal_by_fractions(row)
            wanted = reference.barring_by_rule(numbers, 60, reference.determinant(reference.table(row)))
            found = barring_place(Form(row))
            self.assertEqual(found, wanted, row)
            self.assertIs(gives_nought(Form(row)), wanted is None)
            if found is not None:
                self.assertIs(gives_nought_at(Form(row), found), False)

    def test_least_place_is_no_divisor(self):
        """A root that is no integer may show late: such a number is a square at many primes."""
        primes = [p for p in range(2, 100) if reference.is_prime(p)]
        late = {}
        for d in range(2, 40000):
            if d % 4 < 2 and math.isqrt(d) ** 2 != d:
                place = next(p for p in primes if not reference.is_square_by_rule(d, p))
                rest = (d - d % 2) // 4
                row = next(((a, d % 2, -(rest // a)) for a in range(1, 101) if rest % a == 0 and rest // a <= 100), None)
                if place > 13 and row is not None:
                    late[row] = place
        self.assertGreater(len(late), 10)
        self.assertGreaterEqual(max(late.values()), 19)
        for row, place in late.items():
            self.assertEqual(barring_place(Form(row)), place, row)
            self.assertEqual(barring_place(Form(row[::-1])), place, row)

    def test_random_forms(self):
        source = reference.source(91)
        greatest = 0
        for count in (3, 6, 10):
            for _ in range(250):
                row = tuple(source.randint(-100, 100) for _ in range(count))
                if reference.determinant(reference.table(row)):
                    numbers = reference.diagonal_by_fractions(row)
                    measure = reference.determinant(reference.table(row))
                    place = barring_place(Form(row))
                    self.assertEqual(place, reference.barring_by_rule(numbers, 60, measure), row)
                    greatest = max(greatest, place or 0)
        self.assertGreater(greatest, 90)

    def test_four_unknowns_with_great_places(self):
        """The form a (x x - u y y) - b (z z - u t t) with primes a and b by which u leaves no rest of a square."""
        for a, b, u in ((97, 89, 5), (83, 73, 5), (67, 97, 5), (61, 83, 2), (53, 61, 2), (59, 61, 2)):
            row = reference.diagonal((a, -a, b, -b)) if a * u > 100 else reference.diagonal((a, -a * u, -b, b * u))
            numbers = reference.diagonal_by_fractions(row)
            self.assertEqual(barring_place(Form(row)), reference.barring_by_rule(numbers, 200))
        row = reference.diagonal((1, -5, -47, 1))
        self.assertEqual(barring_place(Form(row)), reference.barring_by_rule([1, -5, -47, 1], 100))

    def test_primes_that_bar_three_unknowns(self):
        """Forms p x x - .. that are barred at great primes alone: as many places as even."""
        found = {}
        for a, b in itertools.product(range(1, 101), repeat=2):
            if math.gcd(a, b) == 1:
                numbers = (a, b, -97)
                wanted = reference.barring_by_rule(numbers, 2)
                if wanted is not None and wanted > 40:
                    found[numbers] = wanted
        self.assertGreater(len(found), 5)
        for numbers, wanted in found.items():
            self.assertEqual(barring_place(Form(reference.diagonal(numbers))), wanted)


class NumberTest(Case):

    def test_examples(self):
        self.assertEqual([gives_over_fractions(CIRCLE, 3), barred_number(CIRCLE, 3), gives_at(CIRCLE, 3, 5),
                          barred_number(BALL, 7), gives_over_fractions(WIDE, 7), barred_number(WIDE, -1),
                          barred_number(FOUR, 7), gives_over_fractions(ROOT, 3)],
                         [False, 2, True, 2, True, 0, None, False])
        self.assertEqual([gives_at(place=5, number=3, form=CIRCLE), barred_number(number=7, form=BALL),
                          gives_over_fractions(number=7, form=WIDE)], [True, 2, True])

    def test_against_rests(self):
        for row in forms()[::2]:
            numbers = reference.diagonal_by_fractions(row)
            for place in (0, 2, 3, 5, 7):
                for number in NUMBERS[::1 if place == 2 else 3]:
                    wanted = by_rests(numbers + [-number], place)
                    self.assertIs(gives_at(Form(row), number, place), wanted, (row, number, place))

    def test_against_the_rule(self):
        for row in forms():
            numbers = reference.diagonal_by_fractions(row)
            for number in NUMBERS[::2]:
                for place in PLACES + (97, 999983):
                    wanted = reference.nought_by_rule(numbers + [-number], place)
                    self.assertIs(gives_at(Form(row), number, place), wanted, (row, number, place))

    def test_least_place(self):
        source = reference.source(92)
        greatest = 0
        rows = forms() + [tuple(source.randint(-100, 100) for _ in range(count)) for count in (3, 6) for _ in range(150)]
        for row in rows:
            measure = reference.determinant(reference.table(row))
            if measure == 0:
                continue
            numbers = reference.diagonal_by_fractions(row)
            for number in source.sample(NUMBERS, 4) + [997, 991, -983, source.randint(1, 1000)]:
                places = [0] + reference.primes_of(2 * measure * number)
                bars = [p for p in places if not reference.nought_by_rule(numbers + [-number], p)]
                found = barred_number(Form(row), number)
                self.assertEqual(found, min(bars, default=None), (row, number))
                self.assertIs(gives_over_fractions(Form(row), number), not bars)
                greatest = max(greatest, found or 0)
        self.assertGreater(greatest, 500)

    def test_values_are_given(self):
        source = reference.source(93)
        for row in forms():
            for _ in range(6):
                vector = tuple(source.randint(-6, 6) for _ in range(reference.unknowns(row)))
                number = reference.value(row, vector)
                if number and abs(number) <= 1000:
                    self.assertIsNone(barred_number(Form(row), number))
                    self.assertIs(gives_over_fractions(Form(row), number), True)
                    self.assertTrue(gives_at(Form(row), number, 2))
                    for square in (4, 9, 25):
                        if number % square == 0:
                            self.assertIsNone(barred_number(Form(row), number // square))
                        if abs(number * square) <= 1000:
                            self.assertIsNone(barred_number(Form(row), number * square))

    def test_known_rules(self):
        for number in range(1, 1001):
            primes = reference.primes_of(number)
            two = not any(p % 4 == 3 and reference.split(number, p)[0] % 2 for p in primes)
            self.assertIs(gives_over_fractions(CIRCLE, number), two)
            power, left = reference.split(number, 2)
            self.assertEqual(barred_number(BALL, number), 2 if power % 2 == 0 and left % 8 == 7 else None)
            self.assertIsNone(barred_number(FOUR, number))
            self.assertEqual(barred_number(FOUR, -number), 0)
            self.assertIsNone(barred_number(Form((0, 1, 0)), number))


class VectorTest(Case):

    def check_vector(self, numbers, wanted=None):
        form = Form(reference.diagonal(numbers))
        vector = nought_vector(form)
        if wanted is None:
            wanted = reference.barring_by_rule(numbers, 2) is None
        if not wanted:
            self.assertIsNone(vector, numbers)
            return
        self.assertIs(type(vector), tuple, numbers)
        self.assertEqual([type(number) for number in vector], [int] * len(numbers))
        self.assertEqual(sum(a * x * x for a, x in zip(numbers, vector)), 0, numbers)
        self.assertEqual(math.gcd(*vector), 1, numbers)
        self.assertEqual(form.value(vector), 0)

    def test_two_squares(self):
        source = reference.source(94)
        pairs = list(itertools.product([k for k in range(-20, 21) if k], repeat=2))
        pairs += [(source.choice((-1, 1)) * source.randint(1, 100), source.randint(1, 100)) for _ in range(200)]
        pairs += [(k * x * x, -k * y * y) for k in (1, 2, 3, 6) for x in range(1, 5) for y in range(1, 5)]
        for a, b in pairs:
            self.check_vector((a, b), a * b < 0 and math.isqrt(-a * b) ** 2 == -a * b)

    def test_small_coefficients(self):
        for numbers in itertools.product([k for k in range(-9, 10) if k], repeat=3):
            self.check_vector(numbers)

    def test_existence_by_trying(self):
        """A vector with small numbers is there if nought is given by small coefficients."""
        squares = [x * x for x in range(13)]
        for a, b, c in itertools.product(range(1, 13), range(1, 13), range(1, 13)):
            sums = {a * x + b * y for x in squares for y in squares}
            some = any(c * z in sums for z in squares[1:])
            self.assertIs(nought_vector(Form((a, 0, 0, b, 0, -c))) is not None, some, (a, b, c))

    def test_great_coefficients(self):
        source = reference.source(95)
        for _ in range(700):
            numbers = [source.randint(1, 100) for _ in range(3)]
            numbers[source.randint(0, 2)] *= -1
            sign = source.choice((-1, 1))
            self.check_vector([sign * number for number in numbers])
        for numbers in itertools.permutations((97, 89, -83)):
            self.check_vector(numbers)
        for numbers in itertools.product((91, 77, 78, 95), (-33, -65, -99, -100), (85, 70, -66, 98)):
            self.check_vector(numbers)

    def test_squares_and_common_divisors(self):
        for x, y, z in itertools.product((1, 2, 3, 5, 7), repeat=3):
            for a, b, c in ((1, 1, -1), (1, 1, -2), (2, 1, -3), (1, -2, -2), (3, 3, -2), (6, 10, -15)):
                numbers = (a * x * x, b * y * y, c * z * z)
                if max(map(abs, numbers)) <= 100:
                    self.check_vector(numbers)
                numbers = (a * x * y, b * y * z, c * z * x)
                if max(map(abs, numbers)) <= 100:
                    self.check_vector(numbers)
                    self.check_vector([-number for number in numbers])

    def test_hardest(self):
        """Great primes, and products of small ones, that give nought."""
        primes = [p for p in range(2, 100) if reference.is_prime(p)]
        done = 0
        for a, b, c in itertools.combinations(primes[-14:], 3):
            for numbers in ((a, b, -c), (a, -b, c), (-a, b, c)):
                if reference.barring_by_rule(numbers, 2) is None:
                    self.check_vector(numbers, True)
                    done += 1
        self.assertGreater(done, 50)
        self.check_vector((30, 42, -70))
        self.check_vector((66, 78, -91))

    def test_refused(self):
        for row, given in (((1, 1, -1), 1), ((1, -7, -1), -7), ((0, 100, 0), 100), ((1, 0, 3, 1, 0, 1), 3),
                           ((1, 0, 0, 1, -4, 1), -4), ((1, 5, 6, 1, 7, 1), 5), ((0, 0, -1, 3, 9, 0), -1)):
            self.refused_both(TooGreat, {"given": given}, nought_vector, form=Form(row))
        for row in ((1, 0, 0, 0, 1, 0, 0, 1, 0, -1), (1, 2, 3, 4, -5, 6, 7, 8, 9, -10), (0, 1, 0, 0, 0, 0, 0, 0, 1, 0)):
            self.refused_both(TooGreat, {"given": 4}, nought_vector, form=Form(row))
        self.refused_both(TooGreat, {"given": 5}, nought_vector, form=Form((1,) * 15))
        self.refused_both(TooGreat, {"given": 101}, nought_vector, form=Form((1, 3, 101)))
        self.refused_both(TooGreat, {"given": -101}, nought_vector, form=Form((1, -101, 100)))
        self.refused_both(Flat, {}, nought_vector, form=Form((1, 2, 1)))
        self.refused_both(Flat, {}, nought_vector, form=Form((0,) * 10))

    def test_bounds_are_let(self):
        for numbers in ((100, -100), (100, 100), (100, 100, -100), (-100, 100, 99), (-99, 100, -98)):
            self.check_vector(numbers)


class RefusedTest(Case):

    def actions(self):
        return ((gives_nought_at, {"place": 2}), (gives_nought, {}), (barring_place, {}), (nought_vector, {}),
                (gives_at, {"number": 1, "place": 2}), (gives_over_fractions, {"number": 1}),
                (barred_number, {"number": 1}))

    def test_no_form(self):
        for given in NO_FORMS:
            for action, more in self.actions():
                self.refused_both(NotAForm, {"given": given}, action, form=given, **more)
            self.refused_both(NotAForm, {"given": given}, gives_nought_at, form=given, place=4)
            self.refused_both(NotAForm, {"given": given}, gives_at, form=given, number=0, place=4)
            self.refused_both(NotAForm, {"given": given}, barred_number, form=given, number=0)
            self.refused_both(NotAForm, {"given": given}, gives_over_fractions, form=given, number=0)

    def test_numbers(self):
        rows = [Form((1, 0, 1)), Form(FLAT[0]), Form(BEYOND[0][0]), Form(FIVE[0])]
        for given in NO_INTEGERS + (0, 1001, -1001, 10 ** 79):
            for form in rows:
                self.refused_both(InvalidNumber, {"given": given}, gives_at, form=form, number=given, place=2)
                self.refused_both(InvalidNumber, {"given": given}, gives_at, form=form, number=given, place=4)
                self.refused_both(InvalidNumber, {"given": given}, gives_over_fractions, form=form, number=given)
                self.refused_both(InvalidNumber, {"given": given}, barred_number, form=form, number=given)

    def test_places(self):
        rows = [Form((1, 0, 1)), Form(FLAT[0]), Form(BEYOND[0][0]), Form(FIVE[0])]
        for given in NO_PLACES:
            for form in rows:
                self.refused_both(InvalidPlace, {"given": given}, gives_nought_at, form=form, place=given)
                self.refused_both(InvalidPlace, {"given": given}, gives_at, form=form, number=-1000, place=given)

    def test_last_errors(self):
        rows = [(Flat, {}, row) for row in FLAT] + [(TooGreat, {"given": given}, row) for row, given in BEYOND]
        rows += [(TooGreat, {"given": 5}, row) for row in FIVE]
        for error, attributes, row in rows:
            for action, more in self.actions():
                self.refused_both(error, attributes, action, form=Form(row), **more)

    def test_bounds_are_let(self):
        for row in ((100, 0, 100), (-100, 100, 100), (100,) * 5 + (99,), (100, 1, 2, 3, 100, 4, 5, 100, 6, -100)):
            for number in (1, -1, 1000, -1000):
                self.assertIn(gives_at(Form(row), number, 999999999989), (True, False))
                self.assertIs(barred_number(Form(row), number) is None, gives_over_fractions(Form(row), number))
