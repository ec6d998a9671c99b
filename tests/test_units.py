"""Units, their powers, and turns ([18])."""

import math

from formworld.errors import InvalidDiscriminant, InvalidNumber, NotAForm, NotBinary, NotMixed, NotPrimitive, TooGreat
from formworld.forms import Form
from formworld.units import least_minus_unit, least_unit, turn, unit_power
from tests import reference, two
from tests.cases import Case, NO_INTEGERS
from tests.test_binary import NO_BINARY, NO_FORMS
from tests.test_classes import NO_DISCRIMINANTS

ROOT = Form((1, 0, -2))
ALL = two.discriminants(5, 1000)
TOP = 10 ** 75


def searched(d, norm, most):
    """The least pair (t, u), by trying all u up to `most`."""
    for u in range(1, most + 1):
        square = d * u * u + norm
        if square > 0 and math.isqrt(square) ** 2 == square:
            return math.isqrt(square), u
    return None


def continued(d):
    """The least unit or minus-unit: by the continued fraction of (1 + w) / 2 or w / 2 (Lagrange)."""
    root = math.isqrt(d)
    p, q = d % 2, 2
    before, now = (0, 1), (1, 0)
    while True:
        a = (p + root) // q
        before, now = now, (a * now[0] + before[0], a * now[1] + before[1])
        p = a * q - p
        q = (d - p * p) // q
        t, u = 2 * now[0] - d % 2 * now[1], now[1]
        if abs(t * t - d * u * u) == 4:
            return t, u


class LeastTest(Case):

    def test_examples(self):
        self.assertEqual([least_unit(8), least_minus_unit(8), least_unit(12), least_minus_unit(12), least_unit(5),
                          least_minus_unit(5), least_unit(21)], [(6, 2), (2, 1), (4, 1), None, (3, 1), (1, 1), (5, 1)])

    def test_against_a_search(self):
        found = 0
        for d in ALL:
            for action, norm in ((least_unit, 4), (least_minus_unit, -4)):
                wanted = searched(d, norm, 1500)
                got = action(discriminant=d)
                if wanted is not None:
                    self.assertEqual(got, wanted, d)
                    found += 1
                elif got is not None:
                    self.assertGreater(got[1], 1500)
        self.assertGreater(found, 300)

    def test_against_continued_fractions(self):
        for d in ALL:
            t, u = continued(d)
            if t * t - d * u * u == -4:
                self.assertEqual(least_minus_unit(d), (t, u), d)
                self.assertEqual(least_unit(d), ((t * t + d * u * u) // 2, t * u), d)
            else:
                self.assertIsNone(least_minus_unit(d), d)
                self.assertEqual(least_unit(d), (t, u), d)

    def test_kinds(self):
        for d in ALL:
            t, u = least_unit(d)
            self.assertEqual((type(least_unit(d)), type(t), type(u)), (tuple, int, int))
            self.assertEqual(t * t - d * u * u, 4)
            self.assertGreater(min(t, u), 0)
            minus = least_minus_unit(d)
            if minus is not None:
                self.assertIs(type(minus), tuple)
                self.assertEqual(minus[0] ** 2 - d * minus[1] ** 2, -4)

    def test_no_minus_unit(self):
        """None is there if a prime that leaves 3 by 4, or 16, divides the discriminant; one is if it is a prime."""
        for d in ALL:
            primes = reference.primes_of(d)
            if d % 16 == 0 or any(p % 4 == 3 for p in primes):
                self.assertIsNone(least_minus_unit(d))
            if primes == [d]:
                self.assertIsNotNone(least_minus_unit(d))

    def test_class_numbers(self):
        """The number of classes times the logarithm of the least unit, by the formula of Dirichlet."""
        for d in ALL:
            if two.is_fundamental(d):
                t, u = least_unit(d)
                size = math.log((t + u * math.sqrt(d)) / 2)
                total = -2 * sum(two.kronecker(d, r) * math.log(math.sin(math.pi * r / d))
                                 for r in range(1, (d + 1) // 2) if math.gcd(d, r) == 1)
                self.assertAlmostEqual(total / size, len(two.leaders(d)), 5, d)


class PowerTest(Case):

    def test_examples(self):
        self.assertEqual([unit_power(5, 2), unit_power(discriminant=8, many=1)], [(7, 3), (6, 2)])

    def test_one_by_one(self):
        """Powers obey s(k + 1) = t s(k) - s(k - 1), numbers of both kinds."""
        for d in ALL[::3] + [5, 8, 12, 13, 997, 1000, 964]:
            t, u = least_unit(d)
            before, now = (2, 0), (t, u)
            for many in range(1, 101):
                if now[0] > TOP:
                    self.refused(TooGreat, {"given": now[0]}, unit_power, d, many)
                else:
                    self.assertEqual(unit_power(d, many), now)
                before, now = now, (t * now[0] - before[0], t * now[1] - before[1])

    def test_the_greatest_that_are_let(self):
        for d in ALL:
            t, u = least_unit(d)
            size = math.log10((t + u * math.sqrt(d)) / 2)
            many = min(int(75 / size), 100)
            for k in range(max(many - 2, 1), min(many + 2, 100) + 1):
                try:
                    s, v = unit_power(d, k)
                except TooGreat as error:
                    self.assertGreater(error.given, TOP)
                    self.assertGreater(k * size, 74.9)
                else:
                    self.assertLessEqual(s, TOP)
                    self.assertEqual(s * s - d * v * v, 4)
                    self.assertLess(k * size, 75.1)

    def test_all_can_be_passed_for_five(self):
        self.assertEqual(unit_power(5, 100)[0], 792070839848372253127 ** 2 - 2)


class TurnTest(Case):

    def check_turn(self, row):
        form = Form(row)
        d = two.discriminant(row)
        found = turn(form=form)
        t, u = least_unit(d)
        a, b, c = row
        self.assertEqual([type(found)] + [type(line) for line in found], [tuple] * 3)
        self.assertEqual(found, (((t - b * u) // 2, -c * u), (a * u, (t + b * u) // 2)))
        self.assertEqual((t - b * u) % 2, 0)
        self.assertEqual(reference.determinant(found), 1)
        self.assertEqual(form.changed(found), form)

    def test_examples(self):
        self.assertEqual([turn(ROOT), ROOT.changed(turn(ROOT)) == ROOT], [((3, 4), (2, 3)), True])

    def test_reduced_forms(self):
        for d in ALL[::4] + [5, 8, 12, 997, 1000, 964, 921]:
            for rows in two.rings(d):
                if two.is_primitive(rows[0]):
                    for row in rows[:5]:
                        self.check_turn(row)

    def test_great_coefficients(self):
        source = reference.source(111)
        for d in ALL[::5] + [997, 1000, 964, 921]:
            for row in two.leaders(d)[:3]:
                skew = two.acted(row, two.some_proper(source, 9))
                if max(map(abs, skew)) <= 10 ** 12:
                    self.check_turn(skew)
                self.check_turn(two.acted(row, ((1, 150000), (0, 1))))


class RefusedTest(Case):

    def test_discriminants(self):
        for given in NO_DISCRIMINANTS + (-3, -4, -20, -23, -100000, -99999):
            for action in (least_unit, least_minus_unit):
                self.refused_both(InvalidDiscriminant, {"given": given}, action, discriminant=given)
            for many in (1, 0, None):
                self.refused_both(InvalidDiscriminant, {"given": given}, unit_power, discriminant=given, many=many)

    def test_exponents(self):
        for given in NO_INTEGERS + (0, -1, 101, 10 ** 79):
            for d in (5, 997, 1000):
                self.refused_both(InvalidNumber, {"given": given}, unit_power, discriminant=d, many=given)

    def test_too_great(self):
        for d, many in ((8, 99), (8, 100), (997, 100), (1000, 50)):
            t, u = least_unit(d)
            s, v = t, u
            for _ in range(many - 1):
                s, v = (s * t + d * v * u) // 2, (s * u + v * t) // 2
            self.assertGreater(s, TOP)
            self.refused_both(TooGreat, {"given": s}, unit_power, discriminant=d, many=many)

    def test_turn(self):
        for given in NO_FORMS:
            self.refused_both(NotAForm, {"given": given}, turn, form=given)
        for row in NO_BINARY:
            form = Form(row)
            self.refused_both(NotBinary, {"given": form}, turn, form=form)
        for row in ((1, 0, 1), (2, 2, 3), (2, 0, 2), (4, 4, 6), (1, 1, 25000)):
            self.refused_both(NotMixed, {}, turn, form=Form(row))
        for row in ((2, 0, -4), (3, 3, -3), (-2, 0, 4), (5, 5, -5), (2, 2, -4 * 31)):
            self.refused_both(NotPrimitive, {}, turn, form=Form(row))
