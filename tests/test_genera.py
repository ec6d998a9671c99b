"""Marks and genera ([17])."""

import itertools
import math

from formworld.classes import classes, main_form
from formworld.composing import composed
from formworld.errors import InvalidDiscriminant, NotAForm, NotBinary, NotPrimitive, Unlike
from formworld.forms import Form
from formworld.genera import count_genera, genera, genus_of, is_of_genus, marks
from tests import reference, two
from tests.cases import Case
from tests.test_binary import NO_BINARY, NO_FORMS
from tests.test_classes import NO_DISCRIMINANTS
from tests.test_composing import NOT_PRIMITIVE

WIDE, MAIN, LEFT, RIGHT = Form((2, 2, 3)), Form((1, 0, 5)), Form((2, 1, 3)), Form((2, -1, 3))
SOME = [-420, -1155, -5460, -3299, -2400, -2048, -9216, -99999, -100000, -98280, 480, 505, 780, 840, 960, 512, 936, 1000]


def marks_by_words(d):
    found = [p for p in reference.primes_of(d) if p > 2]
    if d % 2 == 0:
        m = -d // 4
        if m % 4 == 1 or m % 8 == 4:
            found.append(-4)
        if m % 8 == 2:
            found.append(-8)
        if m % 8 == 6:
            found.append(8)
        if m % 8 == 0:
            found.extend([-4, 8])
    return tuple(sorted(found))


def told(mark, v):
    if mark == -4:
        return 1 if v % 4 == 1 else -1
    if mark == 8:
        return 1 if v % 8 in (1, 7) else -1
    if mark == -8:
        return 1 if v % 8 in (1, 3) else -1
    return 1 if any((x * x - v) % mark == 0 for x in range(mark)) else -1


def values(row, size=14):
    d = two.discriminant(row)
    found = [two.value(row, x, y) for x in range(-size, size + 1) for y in range(size + 1)]
    return [v for v in found if math.gcd(v, 2 * d) == 1]


class MarksTest(Case):

    def test_examples(self):
        self.assertEqual([marks(-20), marks(-84), marks(12), marks(8), marks(discriminant=-4)],
                         [(-4, 5), (-4, 3, 7), (-4, 3), (8,), (-4,)])

    def test_against_the_words(self):
        for d in two.discriminants(-2100, 1000) + SOME:
            found = marks(d)
            self.assertIs(type(found), tuple)
            self.assertEqual(found, marks_by_words(d), d)

    def test_each_rest(self):
        wanted = {0: (-4, 8), 1: (-4,), 2: (-8,), 3: (), 4: (-4,), 5: (-4,), 6: (8,), 7: ()}
        for m in list(range(2, 60)) + list(range(-60, -2)) + [25000, -250, -249, 24999]:
            if two.is_discriminant(-4 * m):
                self.assertEqual(tuple(k for k in marks(-4 * m) if k in (-8, -4, 8)), wanted[m % 8], m)


class GenusTest(Case):

    def test_examples(self):
        self.assertEqual([genus_of(MAIN), genus_of(WIDE), genus_of(Form((3, 0, -1))), genera(-20) == ((MAIN,), (WIDE,)),
                          count_genera(-84), count_genera(-23), is_of_genus(LEFT, RIGHT)],
                         [(1, 1), (-1, -1), (-1, -1), True, 4, 1, True])

    def test_against_all_values(self):
        """The marks tell of all values at small vectors what is told of the form."""
        for d in two.discriminants(-330, 330) + [-420, -1155, -2400, -2048, 480, 840, 960, 512]:
            for row in two.leaders(d):
                every = values(row, 6) or values(row, 14)
                self.assertTrue(every, row)
                wanted = {tuple(told(mark, v) for mark in marks_by_words(d)) for v in set(every)}
                self.assertEqual(wanted, {genus_of(Form(row))}, row)

    def test_great_discriminants(self):
        for d in SOME:
            for form in classes(d)[::7]:
                every = values(form.coefficients)[:40]
                wanted = {tuple(told(mark, v) for mark in marks_by_words(d)) for v in every}
                self.assertEqual(wanted, {genus_of(form=form)}, (d, form.coefficients))

    def test_behind_changes(self):
        source = reference.source(101)
        for d in two.discriminants(-90, 90) + SOME:
            for form in classes(d)[:6]:
                skew = Form(two.acted(form.coefficients, two.some_proper(source, 5)))
                self.assertEqual(genus_of(skew), genus_of(form))
                self.assertIs(is_of_genus(form=skew, other=form), True)

    def test_the_main_genus(self):
        for d in two.discriminants(-200, 200) + SOME:
            self.assertEqual(genus_of(main_form(d)), (1,) * len(marks(d)))

    def test_products(self):
        for d in (-84, -420, -231, -1155, 60, 480, 780):
            for left, right in itertools.product(classes(d), repeat=2):
                both = tuple(a * b for a, b in zip(genus_of(left), genus_of(right)))
                self.assertEqual(genus_of(composed(left, right)), both)


class GeneraTest(Case):

    def check_genera(self, d):
        found = genera(discriminant=d)
        self.assertEqual([type(found)] + [type(one) for one in found], [tuple] * (len(found) + 1))
        rows = [[form.coefficients for form in one] for one in found]
        self.assertEqual(sorted(itertools.chain(*rows)), [form.coefficients for form in classes(d)], d)
        self.assertEqual(rows, sorted(sorted(one) for one in rows))
        self.assertEqual(len({len(one) for one in rows}), 1)
        self.assertEqual(len(rows), 2 ** (len(marks_by_words(d)) - 1), d)
        self.assertEqual(count_genera(discriminant=d), len(rows))
        told_ones = [{genus_of(form) for form in one} for one in found]
        self.assertEqual([len(one) for one in told_ones], [1] * len(rows))
        self.assertEqual(len(set.union(*told_ones)), len(rows))
        return found

    def test_all(self):
        for d in two.discriminants(-700, 600) + SOME:
            self.check_genera(d)

    def test_squares(self):
        """The genus of the main class has just the squares of classes."""
        for d in two.discriminants(-250, 200) + SOME:
            squares = {composed(form, form).coefficients for form in classes(d)}
            main = [one for one in genera(d) if main_form(d) in one]
            self.assertEqual(len(main), 1)
            self.assertEqual({form.coefficients for form in main[0]}, squares, d)

    def test_one_genus(self):
        for d in (-84, -420, -23, -56, 60, 145, 316):
            groups = {form.coefficients: k for k, one in enumerate(genera(d)) for form in one}
            for left, right in itertools.product(classes(d), repeat=2):
                wanted = groups[left.coefficients] == groups[right.coefficients]
                self.assertIs(is_of_genus(left, right), wanted)


class RefusedTest(Case):

    def test_discriminants(self):
        for given in NO_DISCRIMINANTS:
            for action in (marks, genera, count_genera):
                self.refused_both(InvalidDiscriminant, {"given": given}, action, discriminant=given)

    def test_no_form(self):
        for given in NO_FORMS:
            self.refused_both(NotAForm, {"given": given}, genus_of, form=given)
            for other in (WIDE, Form(NO_BINARY[0]), None):
                self.refused_both(NotAForm, {"given": given}, is_of_genus, form=given, other=other)
            for form in (WIDE, Form(NO_BINARY[0]), Form(NOT_PRIMITIVE[0])):
                self.refused_both(NotAForm, {"given": given}, is_of_genus, form=form, other=given)

    def test_last_errors(self):
        rows = [(NotBinary, row) for row in NO_BINARY] + [(NotPrimitive, row) for row in NOT_PRIMITIVE]
        for error, row in rows:
            form = Form(row)
            attributes = {"given": form} if error is NotBinary else {}
            self.refused_both(error, attributes, genus_of, form=form)
            for other in (WIDE, LEFT, form, Form((0, 0, 0)), Form((2, 0, 2)), Form((1,) * 6)):
                self.refused_both(error, attributes, is_of_genus, form=form, other=other)
            for first in (WIDE, LEFT):
                self.refused_both(error, attributes, is_of_genus, form=first, other=form)

    def test_unlike(self):
        rows = ((2, 2, 3), (2, 1, 3), (1, 0, -2), (1, 0, 6), (1, 1, -1), (1, 1, 25000), (1, 0, -249))
        for left, right in itertools.permutations(rows, 2):
            self.refused_both(Unlike, {}, is_of_genus, form=Form(left), other=Form(right))
