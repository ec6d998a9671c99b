"""Classes of primitive binary forms ([14] to [16])."""

import itertools
import math

from formworld.classes import classes, classes_giving, count_classes, is_two_sided, main_form, opposite
from formworld.errors import InvalidDiscriminant, InvalidNumber, NotAForm, NotBinary
from formworld.forms import Form
from tests import reference, two
from tests.cases import Case, NO_INTEGERS
from tests.test_binary import NO_BINARY, NO_FORMS

WIDE, MAIN, LEFT = Form((2, 2, 3)), Form((1, 0, 5)), Form((2, 1, 3))
NO_DISCRIMINANTS = NO_INTEGERS + (
    0, 1, 4, 9, 16, 961, 900, -1, -2, -5, -6, 2, 3, 6, 7, 998, 999, 1000 - 1, 1001, 1004, 1005, 1008, -100001, -100003,
    -100004, -100007, 10 ** 79, -10 ** 79, "-20", (-20,),
)
SOME = (-3, -4, -7, -8, -20, -23, -47, -71, -84, -163, -420, -999, -1000, -5460, 5, 8, 12, 13, 60, 136, 145, 229, 316,
        396, 480, 505, 780, 840, 996, 997, 1000)


def rows_of(forms):
    return [form.coefficients for form in forms]


def class_number(d):
    """Of a fundamental discriminant below 0, by the formula of Dirichlet."""
    total = sum(two.kronecker(d, r) * r for r in range(1, -d) if math.gcd(d, r) == 1)
    return {-3: 6, -4: 4}.get(d, 2) * abs(total) // (2 * -d)


class ClassesTest(Case):

    def test_examples(self):
        self.assertEqual([classes(-20) == (MAIN, WIDE), count_classes(-23), count_classes(-84), count_classes(8),
                          count_classes(12), str(main_form(12))], [True, 3, 4, 1, 2, "-2 2 1"])
        self.refused_both(InvalidDiscriminant, {"given": -2}, classes, discriminant=-2)

    def test_against_trying(self):
        for d in two.discriminants(-700, 520) + list(SOME):
            wanted = two.leaders(d)
            found = classes(d)
            self.assertIs(type(found), tuple)
            self.assertEqual(rows_of(found), wanted, d)
            self.assertEqual(wanted, sorted(wanted))
            self.assertEqual(count_classes(discriminant=d), len(wanted))

    def test_bounds(self):
        for d in (-100000, -99999, -99996, 1000, 997, 996):
            self.assertEqual(rows_of(classes(discriminant=d)), two.leaders(d), d)

    def test_known_counts(self):
        known = {-3: 1, -4: 1, -12: 1, -16: 1, -27: 1, -28: 1, -15: 2, -23: 3, -39: 4, -47: 5, -71: 7, -87: 6, -95: 8,
                 -163: 1, -167: 11, -191: 13, -199: 9, -239: 15, -427: 2, -907: 3, -5923: 7, -5460: 16, -99991: 0}
        for d, many in known.items():
            self.assertEqual(count_classes(d), many or class_number(d), d)
        for d in (-719, -1439, -9748, -10007, -19987):
            self.assertEqual(count_classes(d), class_number(d) if two.is_fundamental(d) else len(two.leaders(d)), d)

    def test_formula_of_dirichlet(self):
        for d in two.discriminants(-600, -1):
            if two.is_fundamental(d):
                self.assertEqual(count_classes(d), class_number(d), d)

    def test_all_are_primitive_and_of_the_discriminant(self):
        for d in (-100000, -99900, -98280, 945, 980, 1000):
            for form in classes(d):
                self.assertEqual((form.content, -form.measure), (1, d))


class MainTest(Case):

    def test_main_form(self):
        for d in two.discriminants(-200, 300) + [-100000, -99999, 997, 1000]:
            b = d % 2
            self.assertEqual(main_form(discriminant=d).coefficients, two.leader_of((1, b, (b - d) // 4)), d)
            self.assertIn(main_form(d), classes(d))


class OppositeTest(Case):

    def test_examples(self):
        self.assertEqual([str(opposite(LEFT)), is_two_sided(LEFT), is_two_sided(WIDE)], ["2 -1 3", False, True])

    def test_against_trying(self):
        source = reference.source(71)
        for d in two.discriminants(-250, 150) + [-3299, 505, 761, 940]:
            for rows in two.rings(d):
                for row in (rows[-1], two.acted(rows[0], two.some_proper(source, 4))):
                    a, b, c = row
                    wanted = two.leader_of((a, -b, c))
                    self.assertEqual(opposite(form=Form(row)).coefficients, wanted)
                    self.assertEqual(opposite(Form((c, b, a))).coefficients, rows[0])
                    self.assertIs(is_two_sided(form=Form(row)), wanted == rows[0])

    def test_great_coefficients(self):
        left = Form((10 ** 12, 2 * 10 ** 6 * 3 + 1, 9))
        d = (6 * 10 ** 6 + 1) ** 2 - 36 * 10 ** 12
        self.refused(NotBinary, {"given": left}, opposite, left)
        self.assertGreater(d, 1000)
        skew = Form(two.acted((2, 1, 3), ((1, 5 * 10 ** 5), (0, 1))))
        self.assertEqual(str(opposite(skew)), "2 -1 3")

    def test_multiples_are_classes_too(self):
        self.assertEqual(str(opposite(LEFT.times(7))), "14 -7 21")
        self.assertFalse(is_two_sided(LEFT.times(7)))
        self.assertTrue(is_two_sided(WIDE.times(5)))


class GivingTest(Case):

    def test_examples(self):
        self.assertEqual([classes_giving(-20, 7) == (WIDE,), classes_giving(-20, 11)], [True, ()])
        self.assertEqual(classes_giving(discriminant=-20, number=7), (WIDE,))

    def test_positive_forms_against_boxes(self):
        for d in two.discriminants(-130, -1) + [-231, -420, -455]:
            given = {}
            for row in two.leaders(d):
                for vector, m in reference.listing(row, 60).items():
                    if m and math.gcd(*vector) == 1:
                        given.setdefault(m, set()).add(row)
            for m in range(1, 61):
                self.assertEqual(rows_of(classes_giving(d, m)), sorted(given.get(m, ())), (d, m))
                self.assertEqual(classes_giving(d, -m), ())

    def test_mixed_forms_against_small_vectors(self):
        """Each number that is given is there at a small vector of some form of the ring (Lagrange), if it is small.

        Numbers below half the root of the discriminant are first coefficients of reduced forms.
        """
        for d in two.discriminants(5, 400):
            found = {}
            for rows in two.rings(d):
                if two.is_primitive(rows[0]):
                    for row in rows:
                        found.setdefault(row[0], set()).add(rows[0])
            for m in range(1, math.isqrt(d) // 2 + 1):
                if m * m * 4 < d:
                    for number in (m, -m):
                        self.assertEqual(rows_of(classes_giving(d, number)), sorted(found.get(number, ())), (d, number))

    def test_mixed_forms_against_a_box(self):
        box = two.vectors(25)
        for d in (5, 8, 12, 13, 17, 20, 21, 24, 28, 32, 40, 44, 45, 60, 65, 96, 136, 145, 229, 316):
            given = {}
            for rows in two.rings(d):
                if two.is_primitive(rows[0]):
                    for row in rows:
                        for x, y in box:
                            given.setdefault(two.value(row, x, y), set()).add(rows[0])
            for m in range(-40, 41):
                if m:
                    self.assertEqual(rows_of(classes_giving(d, m)), sorted(given.get(m, ())), (d, m))

    def test_great_numbers(self):
        """The classes that give a number are those of the forms with it as first coefficient."""
        for d in (-99999, -100000, -420, -23, 997, 1000, 145, 60):
            for m in (1000, 999, 997, 840, 720, 961, -1000, -997, -900):
                wanted = set()
                for b in range(-abs(m), abs(m) + 1):
                    if (b * b - d) % (4 * m) == 0 and (d > 0 or m > 0):
                        row = (m, b, (b * b - d) // (4 * m))
                        if two.is_primitive(row):
                            wanted.add(two.leader_of(row))
                found = classes_giving(d, m)
                self.assertIs(type(found), tuple)
                self.assertEqual(rows_of(found), sorted(wanted), (d, m))


class RefusedTest(Case):

    def test_discriminants(self):
        for given in NO_DISCRIMINANTS:
            for action in (classes, count_classes, main_form):
                self.refused_both(InvalidDiscriminant, {"given": given}, action, discriminant=given)
            for number in (1, 0, None):
                self.refused_both(InvalidDiscriminant, {"given": given}, classes_giving, discriminant=given,
                                  number=number)

    def test_all_small_discriminants(self):
        for d in itertools.chain(range(-60, 1020), range(-100010, -99990)):
            if two.is_discriminant(d):
                self.assertEqual(-main_form(d).measure, d)
            else:
                self.refused(InvalidDiscriminant, {"given": d}, main_form, d)

    def test_numbers(self):
        for given in NO_INTEGERS + (0, 1001, -1001, 10 ** 79):
            for d in (-20, 8):
                self.refused_both(InvalidNumber, {"given": given}, classes_giving, discriminant=d, number=given)
        for m in (1, -1, 1000, -1000):
            self.assertIsInstance(classes_giving(8, m), tuple)
        self.assertIn(main_form(-20), classes_giving(-20, 1))

    def test_forms(self):
        for action in (opposite, is_two_sided):
            for given in NO_FORMS:
                self.refused_both(NotAForm, {"given": given}, action, form=given)
            for row in NO_BINARY:
                form = Form(row)
                self.refused_both(NotBinary, {"given": form}, action, form=form)
