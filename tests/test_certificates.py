"""Answers with certificates, which the checker accepts ([25])."""

import itertools

from formworld import certificates
from formworld.certificates import certify_alike, certify_all, certify_barred, certify_nought, certify_number, certify_part
from formworld.certificates import certify_product, certify_proper, certify_solved, certify_unit
from formworld.checker import accepts
from formworld.errors import Flat, InvalidDiscriminant, InvalidNumber, NotAForm, NotBinary, NotMixed, NotPositive
from formworld.errors import NotPrimitive, TooGreat, Unlike
from formworld.forms import Form
from tests import reference, two
from tests.cases import Case, NO_INTEGERS
from tests.test_checker import NINE, TWENTY_NINE, bends, right, unit
from tests.test_giving import MISSING_ONE
from tests.test_places import FLAT, FORMS
from tests.test_places import BEYOND as BEYOND_PLACED

WIDE, MAIN, CIRCLE, BALL = Form((2, 2, 3)), Form((1, 0, 5)), Form((1, 0, 1)), Form((1, 0, 0, 1, 0, 1))
SPHERE, ROOT, FIVE = Form((1, 0, 0, 1, 0, -3)), Form((1, 0, -2)), Form((1,) * 15)
NO_FORMS = NO_INTEGERS + (0, 5, "1 0 1", (1, 0, 1), Form)
NOT_BINARY = ((1, 2, 1), (0, 0, 0), (1, 0, -4), (-1, 0, -1), (1, 0, 0, 1, 0, 1), (1,) * 10, (1000, 0, 1000), (1, 0, -251))
BINARY = ((2, 2, 3), (2, 6, 7), (1, 0, 5), (2, 1, 3), (2, -1, 3), (1, 1, 6), (1, 0, -2), (-1, 0, 2), (1, 0, -3), (3, 0, -1),
          (17, 23, 8), (1, 0, 21), (5, 4, 5), (1, 1, -31), (7, 13, -3), (2, 0, 2), (3, 3, -3))


def text(row):
    return " ".join(map(str, row))


class CertifyCase(Case):

    def accepted(self, pair, claim):
        """The pair has this claim, the checker and the plain rules accept its certificate, and no bent one that is wrong."""
        self.assertIs(type(pair), tuple)
        self.assertEqual(len(pair), 2)
        told, certificate = pair
        self.assertEqual(told, claim)
        self.assertEqual([type(part) for part in told], [type(part) for part in claim])
        self.assertIs(accepts(told, certificate), True, pair)
        for place, part in enumerate(told):
            if type(part) is int and abs(part) < 900:
                for other in (part + 1, part - 1, -part):
                    bent = told[:place] + (other,) + told[place + 1:]
                    if bent[0] not in ("gives", "solved", "misses"):
                        continue
                    self.assertIs(accepts(bent, certificate), right(bent, certificate), (bent, certificate))
        for other in list(bends(certificate))[:6] + [None, 0]:
            self.assertIs(accepts(told, other), right(told, other), (told, other))
        return certificate


class ExamplesTest(Case):

    def test_examples(self):
        self.assertEqual(
            [certify_number(CIRCLE, 3), certify_all(BALL)[0], certify_alike(WIDE, MAIN), certify_proper(WIDE, MAIN),
             certify_part(WIDE, MAIN), certify_nought(SPHERE), certify_unit(8), certify_solved(ROOT, 3), certify_barred(BALL, 7),
             certify_product(WIDE, WIDE)[0]],
            [(('misses', '1 0 1', 3), ()), ('not all', '1 0 0 1 0 1'), (('unlike', '2 2 3', '1 0 5'), ()), None,
             (('part', '2 2 3', '1 0 5', 2), ()), (('no nought', '1 0 0 1 0 -3', 2), ()), (('unit', 8, 6, 2), ()),
             (('unsolved', '1 0 -2', 3), ()), (('barred', '1 0 0 1 0 1', 7, 2), ()), ('product', '2 2 3', '2 2 3', '1 0 5')])

    def test_by_name(self):
        self.assertEqual(certify_number(number=3, form=CIRCLE), certify_number(CIRCLE, 3))
        self.assertEqual(certify_all(form=BALL), certify_all(BALL))
        self.assertEqual(certify_nought(form=SPHERE), certify_nought(SPHERE))
        self.assertEqual(certify_unit(discriminant=8), certify_unit(8))
        self.assertEqual(certify_solved(number=3, form=ROOT), certify_solved(ROOT, 3))
        self.assertEqual(certify_barred(number=7, form=BALL), certify_barred(BALL, 7))
        for name in ("certify_alike", "certify_proper", "certify_part", "certify_product"):
            action = getattr(certificates, name)
            self.assertEqual(action(other=MAIN, form=WIDE), action(WIDE, MAIN))


class PositiveTest(CertifyCase):

    def test_numbers(self):
        for row in reference.POSITIVE:
            most = {3: 40, 6: 20, 10: 8, 15: 4}[len(row)]
            given = set(reference.listing(row, most).values())
            for number in range(1, most + 1):
                word = "gives" if number in given else "misses"
                certificate = self.accepted(certify_number(Form(row), number), (word, text(row), number))
                if word == "misses":
                    self.assertEqual(certificate, ())
                else:
                    self.assertEqual(reference.value(row, certificate), number)

    def test_great_numbers(self):
        for squares in ((1, 1), (1, 1, 1), (1, 2, 5, 5), (1, 1, 1, 1, 1), (40, 60, 50), (1000, 1000), (3, 5, 7, 11, 13)):
            row = reference.diagonal(squares)
            given = reference.diagonal_given(squares, 1000)
            for number in (990, 991, 992, 999, 1000):
                claim, certificate = certify_number(Form(row), number)
                self.assertEqual(claim, ("gives" if number in given else "misses", text(row), number))
                self.assertIs(accepts(claim, certificate), True)

    def test_skew_forms(self):
        for skew, easy, _, _ in reference.skew_forms(330, 3):
            given = set(reference.listing(easy, 4).values())
            for number in range(1, 5):
                claim, certificate = certify_number(Form(skew), number)
                self.assertEqual(claim, ("gives" if number in given else "misses", text(skew), number))
                self.assertIs(accepts(claim, certificate), True)

    def test_all(self):
        fours = ((1, 0, 0, 0, 1, 0, 0, 1, 0, 1), (1, 0, 0, 0, 1, 0, 0, 2, 0, 4), (1, 1, 1, 1, 1, 1, 1, 1, 1, 1),
                 (1, 1, 0, 0, 1, 0, 0, 1, 1, 1), (1,) * 15, reference.diagonal((1, 2, 5, 5, 15)))
        for row in fours:
            form = Form(row)
            claim, certificate = certify_all(form)
            self.assertEqual(claim, ("all", text(row)))
            numbers = NINE if form.is_even_between else TWENTY_NINE
            self.assertEqual([reference.value(row, vector) for vector in certificate], list(numbers))
            self.assertIs(accepts(claim, certificate), True)
            self.assertIs(accepts(claim, certificate[:-1]), False)
            self.assertIs(accepts(claim, certificate[::-1]), False)
            self.assertIs(accepts(("not all", text(row)), certificate), False)

    def test_not_all(self):
        for number, rows in MISSING_ONE.items():
            self.assertEqual(certify_all(Form(rows[0])), (("not all", text(rows[0])), number))
            self.assertIs(accepts(*certify_all(Form(rows[0]))), True)
        for row in ((1, 0, 1), (2, 2, 3), (1000, 0, 1000), (1, 0, 0, 1, 0, 1), reference.diagonal((2, 2, 2, 2, 2))):
            claim, number = certify_all(Form(row))
            self.accepted((claim, number), ("not all", text(row)))
            self.assertNotIn(number, reference.listing(row, number).values())

    def test_alike(self):
        source = reference.source(331)
        rows = [row for row in reference.POSITIVE if len(row) < 15]
        for row in rows:
            for _ in range(2):
                forth, _ = reference.some_change(source, reference.unknowns(row), 3)
                other = reference.changed(row, forth)
                if max(map(abs, other)) <= 1000:
                    self.accepted(certify_alike(Form(row), Form(other)), ("alike", text(row), text(other)))
                    self.accepted(certify_alike(Form(other), Form(row)), ("alike", text(other), text(row)))
        for row, other in itertools.combinations(rows, 2):
            self.assertEqual(certify_alike(Form(row), Form(other)), (("unlike", text(row), text(other)), ()))
            self.assertIs(accepts(("unlike", text(row), text(other)), ()), True)

    def test_errors(self):
        for given in NO_FORMS:
            self.refused_both(NotAForm, {"given": given}, certify_number, form=given, number=0)
            self.refused_both(NotAForm, {"given": given}, certify_all, form=given)
            self.refused_both(NotAForm, {"given": given}, certify_alike, form=given, other=None)
            self.refused_both(NotAForm, {"given": given}, certify_alike, form=Form((0, 0, 0)), other=given)
        for given in NO_INTEGERS + (0, -1, 1001):
            self.refused_both(InvalidNumber, {"given": given}, certify_number, form=Form((0, 0, 0)), number=given)
        for row in ((1, 2, 1), (1, 0, -1), (-1, 0, -1), (0,) * 15, (1001, 0, -1)):
            self.refused_both(NotPositive, {}, certify_number, form=Form(row), number=1)
            self.refused_both(NotPositive, {}, certify_all, form=Form(row))
            self.refused_both(NotPositive, {}, certify_alike, form=Form(row), other=FIVE)
            self.refused_both(NotPositive, {}, certify_alike, form=CIRCLE, other=Form(row))
        for row, given in (((1001, 0, 1), 1001), ((1000, -1001, 1000), -1001)):
            self.refused_both(TooGreat, {"given": given}, certify_number, form=Form(row), number=1000)
            self.refused_both(TooGreat, {"given": given}, certify_all, form=Form(row))
            self.refused_both(TooGreat, {"given": given}, certify_alike, form=Form(row), other=Form((0, 0, 0)))
            self.refused_both(TooGreat, {"given": given}, certify_alike, form=CIRCLE, other=Form(row))
        self.refused_both(TooGreat, {"given": 5}, certify_alike, form=FIVE, other=ROOT)
        self.refused_both(TooGreat, {"given": 5}, certify_alike, form=CIRCLE, other=FIVE)


class BinaryTest(CertifyCase):

    def test_proper(self):
        for row, other in itertools.product(BINARY, repeat=2):
            same = two.discriminant(row) == two.discriminant(other) and two.leader_of(row) == two.leader_of(other)
            told = certify_proper(Form(row), Form(other))
            if not same:
                self.assertIsNone(told)
            else:
                self.accepted(told, ("properly alike", text(row), text(other)))
        source = reference.source(332)
        for row in BINARY:
            for steps in (1, 3, 5):
                other = two.acted(row, two.some_proper(source, steps))
                self.accepted(certify_proper(Form(row), Form(other)), ("properly alike", text(row), text(other)))

    def test_great_coefficients(self):
        """Both ways, with coefficients up to 10 ** 12."""
        source = reference.source(333)
        for row in BINARY:
            other = row
            while max(map(abs, other)) < 10 ** 11:
                found = two.acted(other, two.some_proper(source, 2))
                if max(map(abs, found)) <= 10 ** 12 and max(map(abs, found)) >= max(map(abs, other)):
                    other = found
            self.accepted(certify_proper(Form(row), Form(other)), ("properly alike", text(row), text(other)))
            self.accepted(certify_proper(Form(other), Form(row)), ("properly alike", text(other), text(row)))
            if two.is_primitive(row):
                claim, certificate = certify_product(Form(other), Form(row))
                self.assertIs(accepts(claim, certificate), True, claim)
                if two.discriminant(row) > 0:
                    for number in (-1, 1, 2, 7, -1000):
                        claim, certificate = certify_solved(Form(other), number)
                        self.assertIs(accepts(claim, certificate), True, claim)
                        self.assertEqual(claim[0], certify_solved(Form(row), number)[0][0])

    def test_products(self):
        for d in (-20, -23, -84, -47, -104, 12, 40, 60, 145, 229, 1000, -99999):
            leaders = [Form(row) for row in two.leaders(d)[:6]]
            for form, other in itertools.product(leaders, repeat=2):
                third = two.leader_of(two.product(form.coefficients, other.coefficients))
                claim = ("product", str(form), str(other), text(third))
                certificate = self.accepted(certify_product(form, other), claim)
                for wrong in leaders:
                    if wrong.coefficients != third:
                        self.assertIs(accepts(claim[:3] + (str(wrong),), certificate), False)

    def test_products_of_mixed_forms(self):
        for row, other in (((1, 0, -2), (-1, 0, 2)), ((3, 0, -1), (1, 2, -2)), ((-1, 0, 3), (-1, 0, 3)), ((7, 13, -3), (-3, 13, 7))):
            third = two.leader_of(two.product(row, other))
            self.accepted(certify_product(Form(row), Form(other)), ("product", text(row), text(other), text(third)))

    def test_units(self):
        for d in two.discriminants(1, 1000):
            pair = unit(d) if d < 90 else None
            claim, certificate = certify_unit(d)
            if pair is not None:
                self.assertEqual(claim, ("unit", d, *pair))
            self.assertEqual((claim[:2], certificate), (("unit", d), ()))
            self.assertEqual(claim[2] ** 2 - d * claim[3] ** 2, 4)
            self.assertIs(accepts(claim, certificate), True)
            for bent in ((d, claim[2] + 1, claim[3]), (d, claim[2], claim[3] + 1), (d, -claim[2], claim[3])):
                self.assertIs(accepts(("unit", *bent), ()), False)

    def test_solved(self):
        for row in BINARY:
            if two.discriminant(row) > 0 and two.is_primitive(row):
                for number in list(range(-40, 0)) + list(range(1, 41)) + [-1000, 999, 1000]:
                    claim, certificate = certify_solved(Form(row), number)
                    self.assertEqual(claim[1:], (text(row), number))
                    self.assertIs(accepts(claim, certificate), True)
                    self.assertIs(right(claim, certificate), True)
                    self.assertIs(accepts((({"solved": "unsolved", "unsolved": "solved"}[claim[0]]),) + claim[1:], certificate), False)

    def test_errors(self):
        for given in NO_FORMS:
            for action in (certify_proper, certify_product):
                self.refused_both(NotAForm, {"given": given}, action, form=given, other=None)
                self.refused_both(NotAForm, {"given": given}, action, form=Form((0, 0, 0)), other=given)
            self.refused_both(NotAForm, {"given": given}, certify_solved, form=given, number=0)
        for row in NOT_BINARY:
            form = Form(row)
            for action in (certify_proper, certify_product):
                self.refused_both(NotBinary, {"given": form}, action, form=form, other=BALL)
                self.refused_both(NotBinary, {"given": form}, action, form=WIDE, other=form)
            self.refused_both(NotBinary, {"given": form}, certify_solved, form=form, number=1)
        for given in NO_INTEGERS + (0, 1001, -1001):
            self.refused_both(InvalidNumber, {"given": given}, certify_solved, form=BALL, number=given)
        twice = Form((2, 0, 2))
        self.refused_both(NotPrimitive, {}, certify_product, form=twice, other=BALL)
        self.refused_both(NotPrimitive, {}, certify_product, form=WIDE, other=twice)
        self.refused_both(Unlike, {}, certify_product, form=WIDE, other=CIRCLE)
        self.refused_both(NotMixed, {}, certify_solved, form=twice, number=1)
        self.refused_both(NotPrimitive, {}, certify_solved, form=Form((2, 0, -4)), number=1)
        for given in NO_INTEGERS + (0, 1, 4, 7, 1001, 1004, -4, -3, 10 ** 79):
            self.refused_both(InvalidDiscriminant, {"given": given}, certify_unit, discriminant=given)


class PlacesTest(CertifyCase):

    def test_part(self):
        for row, other in itertools.product(FORMS[::3], repeat=2):
            told = certify_part(Form(row), Form(other))
            numbers = [reference.diagonal_by_fractions(one) for one in (row, other)]
            if told is None:
                self.assertEqual(reference.signature(row), reference.signature(other))
                for place in (2, 3, 5, 7, 11, 13):
                    self.assertIs(accepts(("part", text(row), text(other), place), ()), False, numbers)
            else:
                place = told[0][3]
                self.accepted(told, ("part", text(row), text(other), place))
                for before in (0, 2, 3, 5, 7, 11, 13):
                    if before < place:
                        self.assertIs(accepts(("part", text(row), text(other), before), ()), False)

    def test_nought(self):
        diagonal = [row for row in FORMS if len(row) < 10 and reference.diagonal([t[k] // 2 for k, t in enumerate(reference.table(row))]) == row]
        diagonal += [reference.diagonal(numbers) for numbers in itertools.product((1, -2, 3, -5, 7), repeat=3)]
        words = set()
        for row in diagonal:
            numbers = reference.diagonal_by_fractions(row)
            place = reference.barring_by_rule(numbers, 100)
            claim = ("nought", text(row)) if place is None else ("no nought", text(row), place)
            self.accepted(certify_nought(Form(row)), claim)
            words.add(claim[0])
        self.assertEqual(words, {"nought", "no nought"})

    def test_barred(self):
        source = reference.source(334)
        words = set()
        for row in FORMS:
            for number in source.sample(range(-60, 61), 8) + [0, 1, -1]:
                told = certify_barred(Form(row), number)
                words.add(told is None)
                if told is not None:
                    place = told[0][3]
                    self.assertEqual(told, (("barred", text(row), number, place), ()))
                    self.assertIs(accepts(*told), True)
                    for before in (0, 2, 3, 5, 7):
                        if before < place:
                            self.assertIs(accepts(("barred", text(row), number, before), ()), False)
                else:
                    for place in (0, 2, 3, 5, 7, 11):
                        self.assertIs(accepts(("barred", text(row), number, place), ()), False)
        self.assertEqual(words, {True, False})

    def test_errors(self):
        for given in NO_FORMS:
            self.refused_both(NotAForm, {"given": given}, certify_part, form=given, other=None)
            self.refused_both(NotAForm, {"given": given}, certify_part, form=Form((0, 0, 0)), other=given)
            self.refused_both(NotAForm, {"given": given}, certify_nought, form=given)
            self.refused_both(NotAForm, {"given": given}, certify_barred, form=given, number=None)
        for given in NO_INTEGERS + (1001, -1001):
            self.refused_both(InvalidNumber, {"given": given}, certify_barred, form=Form((0, 0, 0)), number=given)
        rows = [(Flat, {}, row) for row in FLAT] + [(TooGreat, {"given": given}, row) for row, given in BEYOND_PLACED]
        rows += [(TooGreat, {"given": 5}, reference.diagonal((1, 1, 1, 1, 1)))]
        for error, attributes, row in rows:
            self.refused_both(error, attributes, certify_part, form=Form(row), other=Form((0, 0, 0)))
            self.refused_both(error, attributes, certify_part, form=CIRCLE, other=Form(row))
            self.refused_both(error, attributes, certify_nought, form=Form(row))
            self.refused_both(error, attributes, certify_barred, form=Form(row), number=0)
        self.refused_both(TooGreat, {"given": 4}, certify_nought, form=Form((1, 1, 0, 0, 1, 0, 0, 1, 0, -1)))
        self.refused_both(TooGreat, {"given": 2}, certify_nought, form=WIDE)
        self.refused_both(TooGreat, {"given": -1}, certify_nought, form=Form((1, 0, 0, 1, -1, -2)))
