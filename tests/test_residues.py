"""Rests of values, and numbers met at a place and everywhere ([21])."""

import itertools
import math

from formworld.errors import Flat, InvalidNumber, InvalidPlace, NotAForm, TooGreat
from formworld.forms import Form
from formworld.residues import count_modulo, given_modulo, is_met, is_met_at, unmet_place
from tests import reference
from tests.cases import Case, NO_INTEGERS
from tests.test_places import BEYOND, FIVE, FLAT, FORMS, NO_FORMS
from tests.test_signs import NO_PLACES

CIRCLE, BALL, WIDE, MAIN = Form((1, 0, 1)), Form((1, 0, 0, 1, 0, 1)), Form((2, 2, 3)), Form((1, 0, 5))
# Besides those that are not flat: flat ones, and coefficients that have divisors in common with the moduli.
MORE = ((0, 0, 0), (1, 2, 1), (4, 0, 8), (0, 4, 0), (8, 4, 16), (9, 27, 3), (0, 15, 30), (10 ** 12, -10 ** 12, 7),
        (0,) * 6, (1, 2, 2, 1, 2, 1), (2, 4, 0, 0, 8, 6), (0, 2, 0, 0, 6, 4), (3, 9, 18, 27, 0, 81), (0,) * 10,
        (4, 0, 0, 2, 0, 8, 0, 1, 0, 2), (1, 0, 0, 0, 0, 0, 0, 5, 0, 0), (0,) * 15, (1,) * 15,
        (2, 1, 0, -1, 0, 2, 1, 0, 0, 3, 0, 1, 3, -1, 4), (0, 1, 0, 0, 0, 0, 0, 0, 0, 3, 0, 0, 0, 2, 6))
MODULI = {2: (1, 2, 3, 4, 5, 6, 7, 8, 9, 12, 16, 25, 27, 30, 32, 36, 45, 49, 60, 64, 81), 3: (1, 2, 3, 4, 6, 8, 9, 12, 15, 16),
          4: (1, 2, 3, 4, 5, 6, 7, 8), 5: (1, 2, 3, 4)}
GREATEST = {2: 1000, 3: 100, 4: 31, 5: 15}


def counted(row, modulus):
    """How often each rest is left, by going through all vectors of rests."""
    counts = [0] * modulus
    *ranges, last = [range(modulus)] * reference.unknowns(row)
    square = row[-1]
    for beginning in itertools.product(*ranges):
        low = reference.value(row, beginning + (0,))
        slope = reference.value(row, beginning + (1,)) - low - square
        for y in last:
            counts[(low + slope * y + square * y * y) % modulus] += 1
    return counts


def given_by_trying(row, modulus):
    return {rest for rest, many in enumerate(counted(row, modulus)) if many}


class ModuloTest(Case):

    def check(self, row, modulus, rests=None):
        counts = counted(row, modulus)
        form = Form(row)
        for rest in range(modulus) if rests is None else rests:
            self.assertEqual(count_modulo(form, rest, modulus), counts[rest % modulus], (row, rest, modulus))
        given = given_modulo(form, modulus)
        self.assertEqual(given, tuple(rest for rest in range(modulus) if counts[rest]), (row, modulus))
        self.assertTrue(all(type(rest) is int for rest in given))

    def test_examples(self):
        self.assertEqual([count_modulo(CIRCLE, 0, 5), count_modulo(CIRCLE, 1, 3), count_modulo(BALL, 7, 8),
                          given_modulo(CIRCLE, 4), given_modulo(BALL, 8), count_modulo(WIDE, 5, 1)],
                         [9, 4, 0, (0, 1, 2), (0, 1, 2, 3, 4, 5, 6), 1])
        self.assertEqual((count_modulo(modulus=5, number=0, form=CIRCLE), given_modulo(modulus=4, form=CIRCLE)),
                         (9, (0, 1, 2)))

    def test_against_all_vectors(self):
        for row in FORMS + MORE:
            for modulus in MODULI[reference.unknowns(row)]:
                self.check(row, modulus)

    def test_random_forms(self):
        source = reference.source(201)
        for count, most, many in ((3, 100, 60), (6, 20, 60), (10, 8, 40), (15, 5, 20)):
            for _ in range(many):
                size = source.choice((1, 3, 20, 10 ** 12))
                row = tuple(source.randint(-size, size) if source.random() < 0.8 else 0 for _ in range(count))
                self.check(row, source.randint(2, most))

    def test_powers_of_2(self):
        """Up to 512, squares and pairs alone and behind changes."""
        for row in ((1, 0, 1), (0, 1, 0), (1, 1, 1), (2, 1, 3), (3, 2, 5), (4, 4, 12), (0, 8, 0), (6, 2, 6), (5, 0, 40),
                    (1, 2, 1), (16, 16, 16), (2, 6, 7)):
            for modulus in (128, 256, 512):
                self.check(row, modulus)
        for row in ((1, 1, 0, 2, 1, 3), (0, 1, 1, 0, 1, 0), (2, 2, 2, 2, 2, 2), (4, 1, 2, 6, 8, 10)):
            self.check(row, 32)

    def test_up_to_the_bound(self):
        for row, modulus in (((1, 0, 5), 1000), ((2, 1, 3), 997), ((0, 0, 0), 1000), ((1, 1, 0, 2, 1, 3), 100),
                             ((0, 1, 1, 0, 1, 0), 97), ((1, -1, 0, 0, 1, -1, -1, 1, 0, 1), 31),
                             ((0, 1, 1, 1, 0, 1, 1, 0, 1, 0), 30), ((1,) * 15, 15)):
            self.check(row, modulus)
            many = reference.unknowns(row)
            self.assertEqual(sum(count_modulo(Form(row), rest, modulus) for rest in range(modulus)), modulus ** many)

    def test_other_rests_of_the_number(self):
        for row in FORMS[::5] + MORE[::4]:
            for modulus in (1, 2, 7, 12, 15):
                wanted = [count_modulo(Form(row), rest, modulus) for rest in range(modulus)]
                self.assertEqual(sum(wanted), modulus ** reference.unknowns(row))
                for number in (-1000, -999, -13, -1, 0, 1, 17, 100, 999, 1000):
                    self.assertEqual(count_modulo(Form(row), number, modulus), wanted[number % modulus])

    def test_the_modulus_1(self):
        for row in FORMS + MORE + FLAT:
            self.assertEqual((count_modulo(Form(row), -7, 1), given_modulo(Form(row), 1)), (1, (0,)))

    def test_known_counts(self):
        for prime in (3, 5, 7, 11, 13, 101, 499, 997):
            sign = 1 if prime % 4 == 1 else -1
            self.assertEqual(count_modulo(CIRCLE, 1, prime), prime - sign)
            self.assertEqual(count_modulo(CIRCLE, 0, prime), prime + sign * (prime - 1))
            self.assertEqual(given_modulo(CIRCLE, prime), tuple(range(prime)))
        self.assertEqual(count_modulo(Form((0, 0, 0)), 0, 1000), 10 ** 6)
        self.assertEqual(count_modulo(Form((0, 0, 0)), 1, 1000), 0)


class MetTest(Case):

    def test_examples(self):
        self.assertEqual([is_met_at(BALL, 7, 2), is_met_at(BALL, 7, 7), unmet_place(BALL, 28), unmet_place(MAIN, 3),
                          is_met(WIDE, 3), is_met(CIRCLE, -1), unmet_place(CIRCLE, -1), is_met(BALL, 0),
                          is_met(CIRCLE, 21), unmet_place(CIRCLE, 21)],
                         [False, True, 2, 2, True, False, 0, True, False, 3])
        self.assertEqual((is_met_at(place=2, number=7, form=BALL), is_met(number=3, form=WIDE),
                          unmet_place(number=21, form=CIRCLE)), (False, True, 3))

    def test_at_the_place_0(self):
        for row in FORMS:
            plus, minus = reference.signature(row)
            for number in (-1000, -3, -1, 0, 1, 7, 1000):
                wanted = number == 0 or (plus if number > 0 else minus) > 0
                self.assertIs(is_met_at(Form(row), number, 0), wanted, (row, number))

    def check_rests(self, row, prime, most):
        """Against all rests by the greatest power of the prime up to `most`.

        A value with the rest of a number is the number times a square of the prime's own, if the power is divided by
        the prime oftener than the number is, for 2 by 8 times the number's power; 0 is met by all noughts.
        """
        modulus = prime
        while modulus * prime <= most:
            modulus *= prime
        given = given_by_trying(row, modulus)
        checked = 0
        for number in [k for k in range(-1000, 1001) if abs(k) < 70 or k % (prime * prime) == 0]:
            met = is_met_at(Form(row), number, prime)
            if number == 0 or number % modulus not in given:
                self.assertIs(met, number == 0, (row, number, prime))
            else:
                power = reference.split(number, prime)[0]
                if modulus % (prime ** power * (8 if prime == 2 else prime)) == 0:
                    self.assertIs(met, True, (row, number, prime))
                    checked += 1
        return checked

    def test_against_rests(self):
        """Of the numbers whose power asks for more than this modulus only what is barred by it is checked."""
        checked = 0
        for row in FORMS:
            for prime, most in {2: ((2, 512), (3, 243), (5, 125), (7, 49), (97, 97)), 3: ((2, 64), (3, 27), (5, 25)),
                                4: ((2, 16), (3, 9), (5, 5))}[reference.unknowns(row)]:
                checked += self.check_rests(row, prime, most)
        self.assertGreater(checked, 10000)

    def test_squares_in_forms_and_numbers(self):
        for row in ((9, 0, 9), (4, 0, 36), (25, 25, 25), (16, 0, -64), (1, 0, 27), (3, 0, 9), (2, 0, 50), (0, 64, 0),
                    (32, 32, 32), (12, 4, 100), (49, 0, -98)):
            for prime, most in ((2, 512), (3, 729), (5, 625), (7, 343)):
                self.check_rests(row, prime, most)
        for row in ((9, 0, 0, 18, 0, 27), (4, 0, 0, 8, 0, -12), (16, 8, 0, 16, 0, 4), (1, 0, 0, 4, 0, 16)):
            for prime, most in ((2, 64), (3, 81)):
                self.check_rests(row, prime, most)

    def test_changed_forms(self):
        """What is met does not change with the form."""
        source = reference.source(202)
        for row in FORMS:
            for _ in range(3):
                forth, _ = reference.some_change(source, reference.unknowns(row), 2)
                other = reference.changed(row, forth)
                if max(map(abs, other)) <= 100:
                    for number in source.sample(range(-1000, 1001), 30) + [0, 1, -1, 4, 9, 25]:
                        for place in (0, 2, 3, 5, 7, 11):
                            self.assertIs(is_met_at(Form(other), number, place), is_met_at(Form(row), number, place))
                        self.assertEqual(unmet_place(Form(other), number), unmet_place(Form(row), number))

    def test_values_are_met(self):
        source = reference.source(203)
        for row in FORMS:
            for _ in range(20):
                vector = tuple(source.randint(-6, 6) for _ in range(reference.unknowns(row)))
                number = reference.value(row, vector)
                if abs(number) <= 1000:
                    self.assertIs(is_met(Form(row), number), True)
                    self.assertIsNone(unmet_place(Form(row), number))
                    for place in (0, 2, 3, 5, 7, 97, 999999999989):
                        self.assertIs(is_met_at(Form(row), number, place), True, (row, number, place))

    def test_least_place(self):
        source = reference.source(204)
        places = [0] + [p for p in range(2, 1001) if reference.is_prime(p)]
        found = set()
        for row in FORMS:
            form = Form(row)
            more = [p for p in reference.primes_of(reference.determinant(reference.table(row))) if p > 1000]
            for number in source.sample(range(-1000, 1001), 6) + [0]:
                unmet = [place for place in places + more if not is_met_at(form, number, place)]
                self.assertEqual(unmet_place(form, number), min(unmet, default=None), (row, number))
                self.assertIs(is_met(form, number), not unmet)
                found.add(unmet_place(form, number))
        self.assertGreater(len(found), 4)

    def met_by_rests(self, row, number, prime):
        modulus = prime * (4 if prime == 2 else 1) * prime ** reference.split(number, prime)[0]
        return number % modulus in given_by_trying(row, modulus)

    def test_great_places(self):
        """Primes that divide the number, not the measure, and great ones that divide the measure."""
        for number, place in ((3 * 331, 3), (7 * 139, 7), (19 * 43, 19), (23 * 43, 23), (31 * 31, None), (31 * 23, 23),
                              (103, 2), (5 * 197, None), (9 * 103, 2), (11 * 83, 11)):
            self.assertEqual(unmet_place(CIRCLE, number), place, number)
        for row, number in (((16, -15, -80), -919), ((-55, -33, 68), 941), ((-78, 41, 96), 997), ((-53, -11, -57), -991)):
            place = abs(number)
            self.assertEqual(pow(row[1] ** 2 - 4 * row[0] * row[2], (place - 1) // 2, place), place - 1)
            self.assertEqual(unmet_place(Form(row), number), place)
            self.assertEqual([is_met_at(Form(row), number, p) for p in range(2, place) if reference.is_prime(p)],
                             [True] * len([p for p in range(2, place) if reference.is_prime(p)]))
        for row in ((1, 0, -97), (1, 0, 97), (97, 0, 89), (1, 1, 100), (3, 0, -89)):
            for number in (1, 3, 5, -7, 6):
                primes = sorted({p for k in (2 * reference.determinant(reference.table(row)), number)
                                 for p in reference.primes_of(k)})
                unmet = [p for p in primes if not self.met_by_rests(row, number, p)]
                if not is_met_at(Form(row), number, 0):
                    unmet = [0]
                self.assertEqual(unmet_place(Form(row), number), min(unmet, default=None), (row, number))
        form = Form((1, 0, 0, 1, 0, 97))
        self.assertEqual([unmet_place(form, k) for k in (3, 6, 97, 194, 5 * 97, 7 * 97)], [None] * 5 + [2])
        form = Form((97, 0, 0, 97, 0, 1))
        self.assertEqual([unmet_place(form, k) for k in (5, 4, 194, 98, 3 * 97)], [97, None, None, None, None])

    def test_met_is_not_given(self):
        """What is given is met; the other way round it is not so for all forms."""
        self.assertIs(is_met(Form((3, 2, 4)), 1), True)
        self.assertEqual([unmet_place(WIDE, number) for number in (1, 2, 3, 5, 7)], [2, None, None, 2, None])

    def test_known_rules(self):
        for number in range(-1000, 1001):
            bad = [p for p in reference.primes_of(number) if p % 4 == 3 and reference.split(number, p)[0] % 2] if number else []
            power, left = reference.split(number, 2) if number else (0, 1)
            wanted = 0 if number < 0 else 2 if left % 4 == 3 else min(bad, default=None)
            self.assertEqual(unmet_place(CIRCLE, number), wanted, number)
            wanted = 0 if number < 0 else 2 if power % 2 == 0 and left % 8 == 7 else None
            self.assertEqual(unmet_place(BALL, number), wanted, number)
            self.assertIs(is_met(BALL, number), wanted is None)
            self.assertIsNone(unmet_place(Form((0, 1, 0)), number))


class RefusedTest(Case):

    def test_no_form(self):
        for given in NO_FORMS:
            self.refused_both(NotAForm, {"given": given}, count_modulo, form=given, number=None, modulus=0)
            self.refused_both(NotAForm, {"given": given}, given_modulo, form=given, modulus=0)
            self.refused_both(NotAForm, {"given": given}, is_met_at, form=given, number=None, place=4)
            self.refused_both(NotAForm, {"given": given}, is_met, form=given, number=None)
            self.refused_both(NotAForm, {"given": given}, unmet_place, form=given, number=None)

    def test_numbers(self):
        for given in NO_INTEGERS + (1001, -1001, 10 ** 79, -10 ** 79):
            for row in (CIRCLE, Form(FLAT[0]), Form(BEYOND[0][0]), Form(FIVE[0])):
                self.refused_both(InvalidNumber, {"given": given}, count_modulo, form=row, number=given, modulus=0)
                self.refused_both(InvalidNumber, {"given": given}, count_modulo, form=row, number=given, modulus=1000)
                self.refused_both(InvalidNumber, {"given": given}, is_met_at, form=row, number=given, place=4)
                self.refused_both(InvalidNumber, {"given": given}, is_met, form=row, number=given)
                self.refused_both(InvalidNumber, {"given": given}, unmet_place, form=row, number=given)

    def test_moduli(self):
        for given in NO_INTEGERS + (0, -1, -5, 1001, 10 ** 79):
            for row in (CIRCLE, Form((0, 0, 0)), Form((1,) * 15)):
                self.refused_both(InvalidNumber, {"given": given}, count_modulo, form=row, number=0, modulus=given)
                self.refused_both(InvalidNumber, {"given": given}, given_modulo, form=row, modulus=given)

    def test_too_many_vectors(self):
        for count, most in ((6, 100), (10, 31), (15, 15)):
            form = Form((1,) * count)
            for modulus in (most + 1, most + 2, 999, 1000):
                many = modulus ** form.unknowns
                self.refused_both(TooGreat, {"given": many}, count_modulo, form=form, number=1000, modulus=modulus)
                self.refused_both(TooGreat, {"given": many}, given_modulo, form=form, modulus=modulus)
            self.assertEqual(GREATEST[form.unknowns], most)
            self.assertGreater(count_modulo(form, -1000, most), 0)
            self.assertEqual(given_modulo(form, most), tuple(range(most)))
        self.assertGreater(count_modulo(CIRCLE, 1, 1000), 0)

    def test_flat_forms_and_great_coefficients_have_rests(self):
        self.assertEqual(given_modulo(Form((10 ** 12, 0, -10 ** 12)), 7), (0, 1, 2, 3, 4, 5, 6))
        self.assertEqual(given_modulo(Form((1, 2, 1)), 4), (0, 1))

    def test_places(self):
        for given in NO_PLACES:
            for row in (CIRCLE, Form(FLAT[0]), Form(BEYOND[0][0]), Form(FIVE[0])):
                self.refused_both(InvalidPlace, {"given": given}, is_met_at, form=row, number=0, place=given)

    def test_last_errors(self):
        rows = [(Flat, {}, row) for row in FLAT] + [(TooGreat, {"given": given}, row) for row, given in BEYOND]
        rows += [(TooGreat, {"given": 5}, row) for row in FIVE]
        for error, attributes, row in rows:
            for number in (0, 1, -1000):
                self.refused_both(error, attributes, is_met_at, form=Form(row), number=number, place=2)
                self.refused_both(error, attributes, is_met, form=Form(row), number=number)
                self.refused_both(error, attributes, unmet_place, form=Form(row), number=number)

    def test_bounds_are_let(self):
        for row in ((100, 0, 100), (-100, 100, 100), (100,) * 5 + (99,), (100, 1, 2, 3, 100, 4, 5, 100, 6, -100)):
            for number in (1000, -1000, 0):
                self.assertIn(is_met_at(Form(row), number, 999999999989), (True, False))
                self.assertIs(unmet_place(Form(row), number) is None, is_met(Form(row), number))
