"""Products, powers and orders of classes, and the tables of a product ([16], [25])."""

import itertools
import math

from formworld.binary import leading
from formworld.classes import classes, main_form, opposite
from formworld.composing import composed, composing_tables, cyclic_parts, order_of, power, square_roots
from formworld.errors import InvalidDiscriminant, InvalidNumber, NotAForm, NotBinary, NotPrimitive, Unlike
from formworld.forms import Form
from tests import reference, two
from tests.cases import Case, NO_INTEGERS
from tests.test_binary import NO_BINARY, NO_FORMS
from tests.test_classes import NO_DISCRIMINANTS, rows_of

WIDE, MAIN, LEFT, RIGHT, ROOT = Form((2, 2, 3)), Form((1, 0, 5)), Form((2, 1, 3)), Form((2, -1, 3)), Form((1, 0, -2))
NOT_PRIMITIVE = ((2, 0, 2), (5, 0, 5), (2, 2, 2), (4, 4, 6), (2, 0, -4), (3, 3, -3), (-2, 0, 4), (6, 3, 9))
TWO = (composed, composing_tables)
ONE = (order_of, square_roots)
SOME = (-20, -23, -47, -56, -84, -96, -231, -260, -420, -440, -455, 8, 12, 40, 60, 145, 136, 229, 316, 396, 480, 505, 520)
MOST_ENTRY = 10 ** 75


def multiply(d):
    """The table of all products of the classes of a discriminant, by the way of [16]."""
    rows = two.leaders(d)
    return {(row, other): two.leader_of(two.product(row, other)) for row in rows for other in rows}


class ComposedTest(Case):

    def test_examples(self):
        self.assertEqual([str(composed(WIDE, WIDE)), str(composed(LEFT, LEFT)), str(composed(LEFT, RIGHT))],
                         ["1 0 5", "2 -1 3", "1 1 6"])
        self.assertEqual(str(composed(form=LEFT, other=LEFT)), "2 -1 3")
        self.refused_both(Unlike, {}, composed, form=WIDE, other=LEFT)

    def test_against_middle_coefficients(self):
        """All reduced forms of both classes, in both orders."""
        for d in two.discriminants(-130, 90) + list(SOME):
            rings = [rows for rows in two.rings(d) if two.is_primitive(rows[0])]
            table = multiply(d)
            for left, right in itertools.product(rings, repeat=2):
                wanted = table[left[0], right[0]]
                for row, other in itertools.product(left[:4], right[-4:]):
                    self.assertEqual(composed(Form(row), Form(other)).coefficients, wanted, (row, other))
                    self.assertEqual(two.leader_of(two.product(row, other)), wanted)

    def test_behind_changes(self):
        source = reference.source(81)
        for d in SOME + (-3299, -5460, -100000, -99999, 940, 985, 997):
            rows = two.leaders(d)
            for _ in range(6):
                row, other = source.choice(rows), source.choice(rows)
                left, right = (two.acted(one, two.some_proper(source, 6)) for one in (row, other))
                if max(map(abs, left + right)) <= 10 ** 12:
                    found = composed(Form(left), Form(right))
                    self.assertEqual(found.coefficients, two.leader_of(two.product(row, other)))
                    self.assertEqual(found, composed(Form(right), Form(left)))

    def test_great_coefficients(self):
        step = ((1, 6 * 10 ** 5), (0, 1))
        for d in (-23, -420, -99999, 8, 145, 505, 940):
            for row, other in itertools.product(two.leaders(d)[:5], repeat=2):
                left, right = two.acted(row, step), two.acted((other[2], -other[1], other[0]), step)
                if max(map(abs, left + right)) <= 10 ** 12:
                    self.assertEqual(composed(Form(left), Form(right)).coefficients,
                                     two.leader_of(two.product(row, other)), (left, right))

    def test_values_are_multiplied(self):
        for d in (-20, -23, -84, -231, 60, 145):
            for left, right in itertools.product(classes(d), repeat=2):
                both = composed(left, right).coefficients
                a, b = left.coefficients[0], right.coefficients[0]
                if math.gcd(a, b) == 1:
                    rows = [(a * b, x, (x * x - d) // (4 * a * b)) for x in range(2 * abs(a * b))
                            if (x * x - d) % (4 * a * b) == 0]
                    self.assertIn(both, [two.leader_of(row) for row in rows])

    def test_group(self):
        for d in SOME + (-3 * 5 * 7 * 11, -1155 * 4, 780):
            forms = classes(d)
            main = main_form(d)
            for left in forms:
                self.assertEqual(composed(left, main), left)
                self.assertEqual(composed(left, opposite(left)), main)
                self.assertEqual(sorted(rows_of(composed(left, right) for right in forms)), rows_of(forms))
            for left, right, third in itertools.product(forms[:6], forms[-4:], forms[1:5]):
                self.assertEqual(composed(composed(left, right), third), composed(left, composed(right, third)))


class PowerTest(Case):

    def test_examples(self):
        self.assertEqual([str(power(LEFT, 2)), str(power(LEFT, -1)), order_of(LEFT), order_of(WIDE),
                          str(power(WIDE, 1000))], ["2 -1 3", "2 -1 3", 3, 2, "1 0 5"])
        self.assertEqual(str(power(form=LEFT, many=2)), "2 -1 3")

    def test_one_by_one(self):
        source = reference.source(82)
        for d in SOME + (-3299, -99999, 985):
            for start in classes(d)[:7]:
                skew = Form(two.acted(start.coefficients, two.some_proper(source, 4)))
                back = opposite(start)
                up = down = main_form(d)
                order = None
                for many in range(0, 41):
                    self.assertEqual(power(skew, many), up, (d, many))
                    self.assertEqual(power(skew, -many), down, (d, many))
                    if order is None and many and up == main_form(d):
                        order = many
                    up, down = composed(up, start), composed(down, back)
                if order is not None:
                    self.assertEqual(order_of(form=skew), order)

    def test_great_exponents(self):
        for d in (-23, -47, -231, -3299, -99999, -100000, 145, 505, 985):
            for form in classes(d)[:5]:
                order = order_of(form)
                for many in (1000, 999, 997, -1000, -999, 512, -731):
                    self.assertEqual(power(form, many), power(form, many % order), (d, many))
                    self.assertEqual(composed(power(form, many), power(form, -many)), main_form(d))

    def test_orders(self):
        for d in SOME + (-719, -1439, -3299, -99999):
            found = sorted(order_of(form) for form in classes(d)[:40])
            for form in classes(d)[:40]:
                order = order_of(form)
                self.assertEqual(power(form, order), main_form(d))
                self.assertFalse([p for p in reference.primes_of(order) if power(form, order // p) == main_form(d)])
            self.assertEqual(found[0], 1)


class RootsTest(Case):

    def test_examples(self):
        self.assertEqual([square_roots(MAIN) == (MAIN, WIDE), square_roots(WIDE), square_roots(LEFT) == (RIGHT,)],
                         [True, (), True])

    def test_against_all_squares(self):
        source = reference.source(83)
        for d in two.discriminants(-150, 150) + [-420, -1155, -3299, -5460, 505, 780, 840]:
            forms = classes(d)
            squares = {}
            for form in forms:
                squares.setdefault(composed(form, form).coefficients, []).append(form)
            for form in forms:
                skew = Form(two.acted(form.coefficients, two.some_proper(source, 3)))
                found = square_roots(form=skew)
                self.assertIs(type(found), tuple)
                self.assertEqual(found, tuple(squares.get(form.coefficients, ())))


class TablesTest(Case):

    def check_tables(self, left, right):
        tables = composing_tables(left, right)
        product = composed(left, right)
        self.assertEqual([type(tables)] + [type(row) for row in tables], [tuple] * 3)
        self.assertEqual([len(row) for row in tables], [4, 4])
        for number in tables[0] + tables[1]:
            self.assertIs(type(number), int)
            self.assertLessEqual(abs(number), MOST_ENTRY)
        p, q = tables
        self.assertEqual(p[0] * q[1] - p[1] * q[0], left.coefficients[0])
        self.assertEqual(p[0] * q[2] - p[2] * q[0], right.coefficients[0])
        numbers = (0, 1, -1, 2)
        for x, y, z, t in itertools.product(numbers, numbers, (0, 1, 3), (1, 0, -2)):
            products = (x * z, x * t, y * z, y * t)
            vector = [sum(a * b for a, b in zip(row, products)) for row in tables]
            self.assertEqual(two.value(product.coefficients, *vector),
                             two.value(left.coefficients, x, y) * two.value(right.coefficients, z, t))

    def test_all_pairs(self):
        for d in two.discriminants(-60, 40) + [-84, -231, -420, 60, 145]:
            rows = [row for rows in two.rings(d) if two.is_primitive(rows[0]) for row in rows]
            for row, other in itertools.product(rows[:4], rows[-4:]):
                self.check_tables(Form(row), Form(other))
                self.check_tables(Form(other), Form(row))

    def test_behind_changes(self):
        source = reference.source(84)
        for d in SOME + (-3299, -99999, -100000, 997, 940):
            rows = two.leaders(d)
            for _ in range(2):
                left, right = (two.acted(source.choice(rows), two.some_proper(source, 6)) for _ in range(2))
                if max(map(abs, left + right)) <= 10 ** 12:
                    self.check_tables(Form(left), Form(right))

    def test_great_coefficients(self):
        """With the greatest units, behind the greatest changes."""
        for d in (-23, -99999, 991 + 5, 964, 921, 988, 997, 681):
            rows = [row for rows in two.rings(d) if two.is_primitive(rows[0]) for row in rows]
            ends = [two.acted(row, step) for row in rows[:30]
                    for step in (((1, 2 * 10 ** 5), (0, 1)), ((1, 0), (-10 ** 5, 1)))]
            ends = [Form(row) for row in ends if max(map(abs, row)) <= 10 ** 12]
            for left, right in zip(ends[:12], ends[::-1]):
                self.check_tables(left, right)


class PartsTest(Case):

    def test_examples(self):
        self.assertEqual([cyclic_parts(-20), cyclic_parts(-23), cyclic_parts(-84), cyclic_parts(-47), cyclic_parts(8)],
                         [(2,), (3,), (2, 2), (5,), ()])
        self.assertEqual(cyclic_parts(discriminant=-84), (2, 2))

    def test_against_all_orders(self):
        known = [-3299, -5460, -9748, -11651, -3896, -1155, -2379, -3315, -4027, -6307, -8751, 505, 840, 780, 985, 904]
        for d in two.discriminants(-420, 300) + known + [-99999, -100000]:
            parts = cyclic_parts(d)
            self.assertIs(type(parts), tuple)
            orders = sorted(order_of(form) for form in classes(d))
            self.assertEqual(math.prod(parts), len(orders))
            self.assertTrue(all(part > 1 for part in parts))
            self.assertTrue(all(b % a == 0 for a, b in zip(parts, parts[1:])))
            wanted = sorted(math.lcm(*(part // math.gcd(part, k) for part, k in zip(parts, numbers)))
                            for numbers in itertools.product(*map(range, parts)))
            self.assertEqual(wanted, orders, d)

    def test_known_parts(self):
        """Groups of Gauss with a part of three twice, and greater ones."""
        known = {-3299: (3, 9), -4027: (3, 3), -3896: (3, 12), -5460: (2, 2, 2, 2), -12451: (5, 5), -420: (2, 2, 2),
                 -56: (4,), -71: (7,), 145: (4,), 60: (2, 2)}
        for d, parts in known.items():
            self.assertEqual(cyclic_parts(d), parts, d)


class RefusedTest(Case):

    def test_no_form(self):
        for given in NO_FORMS:
            for action in ONE:
                self.refused_both(NotAForm, {"given": given}, action, form=given)
            self.refused_both(NotAForm, {"given": given}, power, form=given, many=1)
            self.refused_both(NotAForm, {"given": given}, power, form=given, many=1001)
            for action in TWO:
                for other in (WIDE, Form(NO_BINARY[0]), None):
                    self.refused_both(NotAForm, {"given": given}, action, form=given, other=other)
                for form in (WIDE, Form(NO_BINARY[0]), Form(NOT_PRIMITIVE[0])):
                    self.refused_both(NotAForm, {"given": given}, action, form=form, other=given)

    def test_last_errors(self):
        rows = [(NotBinary, row) for row in NO_BINARY] + [(NotPrimitive, row) for row in NOT_PRIMITIVE]
        for error, row in rows:
            form = Form(row)
            attributes = {"given": form} if error is NotBinary else {}
            for action in ONE:
                self.refused_both(error, attributes, action, form=form)
            for many in (0, 1, -1000, 1000):
                self.refused_both(error, attributes, power, form=form, many=many)
            for action in TWO:
                for other in (WIDE, ROOT, form, Form((0, 0, 0)), Form((2, 0, 2)), Form((1,) * 6)):
                    self.refused_both(error, attributes, action, form=form, other=other)
                for first in (WIDE, ROOT):
                    self.refused_both(error, attributes, action, form=first, other=form)

    def test_unlike(self):
        rows = ((2, 2, 3), (2, 1, 3), (1, 0, -2), (1, 0, 6), (1, 1, -1), (1, 1, 25000), (1, 0, -249))
        for left, right in itertools.permutations(rows, 2):
            for action in TWO:
                self.refused_both(Unlike, {}, action, form=Form(left), other=Form(right))

    def test_exponents(self):
        for given in NO_INTEGERS + (1001, -1001, 10 ** 79, -10 ** 79):
            for form in (WIDE, Form(NO_BINARY[0]), Form(NOT_PRIMITIVE[0])):
                self.refused_both(InvalidNumber, {"given": given}, power, form=form, many=given)
        for many in (-1000, -1, 0, 1, 1000):
            self.assertEqual(leading(power(LEFT, many)), power(LEFT, many))

    def test_discriminants(self):
        for given in NO_DISCRIMINANTS:
            self.refused_both(InvalidDiscriminant, {"given": given}, cyclic_parts, discriminant=given)
