"""Forms at a place and over fractions ([12])."""

import itertools
import math

from formworld.errors import Flat, InvalidPlace, NotAForm, TooGreat
from formworld.forms import Form
from formworld.places import form_sign, is_alike_at, is_alike_over_fractions, parting_place, places_of
from tests import reference
from tests.cases import Case, NO_INTEGERS
from tests.test_signs import NO_PLACES

NO_FORMS = NO_INTEGERS + (0, 5, "1 0 1", (1, 0, 1), Form)
# Not flat: of all kinds, with and without squares alone, some with 0 as the first coefficient.
FORMS = (
    (1, 0, 1), (1, 1, 1), (2, 2, 3), (1, 0, 5), (-1, 0, -1), (1, 0, -2), (0, 1, 0), (0, 3, 5), (0, 1, -7), (3, 0, -5),
    (6, 0, 10), (15, 0, -21), (5, 3, 0), (-2, 6, -7), (100, 0, 99), (97, 0, 89), (1, 3, 1), (0, 6, 0), (45, 0, 12),
    (1, 0, 0, 1, 0, 1), (1, 0, 0, 1, 0, -3), (-1, 0, 0, -1, 0, -1), (1, 1, 1, 1, 1, 1), (0, 1, 0, 0, 0, 1),
    (0, 1, 1, 0, 1, 0), (0, 0, 1, 3, 0, 0), (2, 1, 0, 3, 2, 4), (6, 0, 0, 10, 0, 15), (0, 2, 3, -1, 5, 7),
    (3, 5, -7, 11, 2, -13), (18, 0, 0, 50, 0, -98), (7, 0, 0, 14, 0, 98),
    (1, 0, 0, 0, 1, 0, 0, 1, 0, 1), (1, 0, 0, 0, -1, 0, 0, 1, 0, -1), (0, 1, 0, 0, 0, 0, 0, 0, 1, 0),
    (0, 0, 0, 1, 0, 1, 0, 0, 0, 0), (1, -1, 0, 0, 1, -1, -1, 1, 0, 1), (2, 1, 0, 1, 2, 0, -1, 3, 1, 3),
    (-3, 1, 2, 0, -5, 1, 1, -7, 0, -11), (1, 2, 3, 4, -5, 6, 7, 8, 9, -10), (1, 0, 0, 0, 2, 0, 0, 5, 0, 10),
    (0, 1, 1, 1, 0, 1, 1, 0, 1, 0),
)
FLAT = ((0, 0, 0), (1, 2, 1), (-1, 2, -1), (200, 400, 200), (1, 0, 0, 1, 0, 0), (0,) * 10, (0,) * 15,
        (1, 0, 0, 0, 1, 0, 0, 1, 0, 0), reference.diagonal((101, 1, 1, 1, 0)))
BEYOND = (((101, 0, 1), 101), ((1, 0, -101), -101), ((100, -101, 100), -101), ((1, 101, 102), 101),
          ((1, 0, 0, 1, 0, 1000), 1000), ((1, 0, 0, 0, 1, 0, 0, 1, 0, -101), -101),
          (reference.diagonal((1, 1, 1, 1, 101)), 101))
FIVE = (reference.diagonal((1, 1, 1, 1, 1)), (1,) * 15, reference.diagonal((100, -100, 100, 100, 100)))
ONE = ((places_of, {}), (form_sign, {"place": 2}))
TWO = ((is_alike_at, {"place": 2}), (is_alike_over_fractions, {}), (parting_place, {}))


def form_sign_of(row, place):
    product = 1
    for a, b in itertools.combinations(reference.diagonal_by_fractions(row), 2):
        product *= reference.sign_by_rests(a, b, place)
    return product


def alike_at(left, right, place):
    """As [12] says it, with signs and squares by trying all rests."""
    if reference.unknowns(left) != reference.unknowns(right):
        return False
    if place == 0:
        return reference.signature(left) == reference.signature(right)
    product = reference.determinant(reference.table(left)) * reference.determinant(reference.table(right))
    if not square_at(product, place):
        return False
    return form_sign_of(left, place) == form_sign_of(right, place)


def square_at(number, p):
    return reference.is_square_by_rests(reference.without_squares(number, p), p)


def fraction_changes(source, n):
    """Rows of integers whose determinant is not 0: over fractions they can be undone."""
    while True:
        rows = [[source.randint(-2, 2) for _ in range(n)] for _ in range(n)]
        if reference.determinant(rows):
            return rows


class PlacesTest(Case):

    def test_examples(self):
        wide, main, ball = Form((2, 2, 3)), Form((1, 0, 5)), Form((1, 0, 0, 1, 0, 1))
        circle, root = Form((1, 0, 1)), Form((1, 0, -2))
        self.assertEqual([places_of(wide), form_sign(ball, 2), form_sign(wide, 2), form_sign(main, 2),
                          form_sign(Form((-1, 0, -1)), 0), is_alike_at(wide, main, 3), is_alike_at(wide, main, 5)],
                         [(0, 2, 5), 1, -1, 1, -1, True, False])
        self.assertEqual([is_alike_over_fractions(wide, main), parting_place(wide, main),
                          is_alike_over_fractions(circle, Form((2, 0, 2))), parting_place(circle, Form((3, 0, 3))),
                          parting_place(circle, root), parting_place(circle, ball)], [False, 2, True, 2, 0, 0])
        self.assertEqual((places_of(form=wide), form_sign(place=2, form=wide)), ((0, 2, 5), -1))
        self.assertIs(is_alike_at(place=3, other=main, form=wide), True)
        self.assertEqual((parting_place(other=main, form=wide), is_alike_over_fractions(other=main, form=wide)),
                         (2, False))

    def test_places(self):
        for row in FORMS:
            measure = reference.determinant(reference.table(row))
            found = places_of(Form(row))
            self.assertIs(type(found), tuple)
            self.assertEqual(found, tuple([0] + reference.primes_of(2 * measure)), row)
        self.assertEqual(places_of(Form((1, 1, 1))), (0, 2, 3))
        self.assertEqual(places_of(Form((0, 1, 0))), (0, 2))
        self.assertEqual(places_of(Form(reference.diagonal((97, 89, 83, 79)))), (0, 2, 79, 83, 89, 97))
        source = reference.source(60)
        for size in (3, 6, 10):
            for _ in range(40):
                row = tuple(source.randint(-100, 100) for _ in range(size))
                measure = reference.determinant(reference.table(row))
                if measure:
                    self.assertEqual(places_of(Form(row)), tuple([0] + reference.primes_of(2 * measure)), row)


class FormSignTest(Case):

    def test_against_fractions_and_rests(self):
        for row in FORMS:
            for place in (0, 2, 3, 5, 7):
                self.assertEqual(form_sign(Form(row), place), form_sign_of(row, place), (row, place))

    def test_sums_of_squares(self):
        """With factors only, by the signs of pairs."""
        for squares in itertools.product((1, -1, 2, 3, -6), repeat=3):
            form = Form(reference.diagonal(squares))
            for place in (0, 2, 3):
                wanted = math.prod(reference.sign_by_rests(a, b, place) for a, b in itertools.combinations(squares, 2))
                self.assertEqual(form_sign(form, place), wanted)

    def test_the_product_over_all_places(self):
        for row in FORMS:
            form = Form(row)
            self.assertEqual(math.prod(form_sign(form, place) for place in places_of(form)), 1, row)
            for place in (11, 13, 101, 10007, 999999999989):
                if place not in places_of(form):
                    self.assertEqual(form_sign(form, place), 1)

    def test_the_same_behind_changes(self):
        source = reference.source(61)
        for row in FORMS:
            for steps in (1, 2, 4):
                forth, _ = reference.some_change(source, reference.unknowns(row), steps)
                other = reference.changed(row, forth)
                if max(map(abs, other)) <= 100:
                    for place in (0, 2, 3, 5, 7, 11):
                        self.assertEqual(form_sign(Form(other), place), form_sign(Form(row), place), (row, other))


class AlikeTest(Case):

    def test_against_fractions_and_rests(self):
        for left, right in itertools.combinations_with_replacement(FORMS, 2):
            for place in (0, 2, 3, 5):
                wanted = alike_at(left, right, place)
                self.assertIs(is_alike_at(Form(left), Form(right), place), wanted, (left, right, place))
                self.assertIs(is_alike_at(Form(right), Form(left), place), wanted, (left, right, place))

    def test_great_places(self):
        for place in (11, 101, 99991, 1000003, 999999999989):
            for left, right in itertools.combinations(FORMS[:19], 2):
                a, b = Form(left), Form(right)
                if a.measure * b.measure % place:
                    square = pow(a.measure * b.measure, (place - 1) // 2, place) == 1
                    self.assertIs(is_alike_at(a, b, place), square)

    def test_unlike_numbers_of_unknowns(self):
        for left, right in itertools.product(FORMS, repeat=2):
            if len(left) != len(right):
                a, b = Form(left), Form(right)
                for place in (0, 2, 3, 999999999989):
                    self.assertIs(is_alike_at(a, b, place), False)
                self.assertEqual(parting_place(a, b), 0)
                self.assertIs(is_alike_over_fractions(a, b), False)

    def test_fractions_make_them_alike(self):
        source = reference.source(62)
        found = 0
        for row in FORMS * 3:
            n = reference.unknowns(row)
            for _ in range(12):
                other = reference.changed(row, fraction_changes(source, n))
                content = math.gcd(*other)
                root = max(r for r in range(1, 40) if content % (r * r) == 0)
                other = tuple(c // (root * root) for c in other)
                if max(map(abs, other)) > 100 or other == row:
                    continue
                found += 1
                self.assertIsNone(parting_place(Form(row), Form(other)), (row, other))
                self.assertIs(is_alike_over_fractions(Form(row), Form(other)), True)
                for place in (0, 2, 3, 5, 7, 97, 999999999989):
                    self.assertIs(is_alike_at(Form(row), Form(other), place), True, (row, other, place))
        self.assertGreater(found, 300)

    def test_the_least_place(self):
        """All places up to the told one, by trying all rests."""
        parted = {}
        for left, right in itertools.combinations(FORMS, 2):
            place = parting_place(Form(left), Form(right))
            self.assertEqual(place, parting_place(Form(right), Form(left)))
            self.assertIs(is_alike_over_fractions(Form(left), Form(right)), place is None)
            parted.setdefault(place, []).append((left, right))
            before = [p for p in (0, 2, 3, 5, 7) if place is None or p < place]
            for p in before:
                self.assertTrue(alike_at(left, right, p), (left, right, p))
            if place is not None and place <= 7:
                self.assertFalse(alike_at(left, right, place), (left, right, place))
        self.assertLessEqual({0, 2, 3}, set(parted))

    def test_parting_places_that_divide_no_measure(self):
        """If the product of the measures is no square, they part at some prime, maybe at one that divides neither."""
        squares = {}
        for left, right in (((1, 0, 1), (1, 0, 17)), ((1, 0, 1), (1, 0, 73)), ((2, 0, 2), (1, 0, 97)),
                            ((1, 0, -1), (1, 0, -73)), ((1, 0, -1), (1, 0, -97)), ((0, 1, 0), (1, 0, -41)),
                            ((1, 0, 0, 1, 0, -1), (1, 0, 0, 1, 0, -73)), ((1, 0, 0, 1, 0, 1), (1, 0, 0, 1, 0, 73))):
            a, b = Form(left), Form(right)
            place = parting_place(a, b)
            for p in (q for q in range(2, place) if reference.is_prime(q)):
                self.assertTrue(is_alike_at(a, b, p), (left, right, p))
                if p < 12:
                    self.assertTrue(alike_at(left, right, p), (left, right, p))
            self.assertFalse(is_alike_at(a, b, place))
            squares[left, right] = place
        self.assertEqual(squares[(1, 0, 1), (1, 0, 17)], 3)
        self.assertEqual(squares[(1, 0, 1), (1, 0, 73)], 5)
        self.assertEqual(squares[(1, 0, -1), (1, 0, -73)], 5)
        self.assertEqual(squares[(0, 1, 0), (1, 0, -41)], 3)

    def test_known(self):
        """Over fractions a a (x x + y y) is alike to x x + y y for a sum of two squares, and for no other one."""
        for many in range(1, 101):
            sums = any(math.isqrt(many - x * x) ** 2 == many - x * x for x in range(math.isqrt(many) + 1))
            both = Form((1, 0, 1)), Form((many, 0, many))
            self.assertIs(is_alike_over_fractions(*both), sums, many)
            place = parting_place(*both)
            bars = [p for p in reference.primes_of(many) if p % 4 == 3 and not_even(many, p)]
            self.assertEqual(place, None if sums else 2 if len(bars) % 2 else bars[0], many)

    def test_all_planes_are_alike(self):
        for row in ((1, 0, -1), (0, 7, 0), (1, 3, 2), (3, 10, 3), (0, 5, 9)):
            self.assertIsNone(parting_place(Form((0, 1, 0)), Form(row)))

    def test_the_same_signature_is_asked_at_nought(self):
        for left, right in (((1, 0, 1), (1, 0, -1)), ((1, 0, 0, 1, 0, 1), (1, 0, 0, -1, 0, -1)),
                            ((1, 0, 0, 1, 0, -1), (-1, 0, 0, -1, 0, 1))):
            self.assertEqual(parting_place(Form(left), Form(right)), 0)
            self.assertFalse(is_alike_at(Form(left), Form(right), 0))


def not_even(number, p):
    power = 0
    while number % p == 0:
        number, power = number // p, power + 1
    return power % 2 == 1


class RefusedTest(Case):

    def test_no_form(self):
        good = Form((1, 0, 1))
        for given in NO_FORMS:
            for action, more in ONE:
                self.refused_both(NotAForm, {"given": given}, action, form=given, **more)
            for action, more in TWO:
                self.refused_both(NotAForm, {"given": given}, action, form=given, other=good, **more)
                self.refused_both(NotAForm, {"given": given}, action, form=good, other=given, **more)
                self.refused_both(NotAForm, {"given": given}, action, form=given, other="x", **more)
                self.refused_both(NotAForm, {"given": given}, action, form=Form(FLAT[0]), other=given, **more)
                self.refused_both(NotAForm, {"given": given}, action, form=Form(FIVE[0]), other=given, **more)
            self.refused_both(NotAForm, {"given": given}, form_sign, form=given, place=4)
            self.refused_both(NotAForm, {"given": given}, is_alike_at, form=good, other=given, place=4)

    def test_places(self):
        rows = [Form((1, 0, 1)), Form(FLAT[0]), Form(BEYOND[0][0]), Form(FIVE[0])]
        for given in NO_PLACES:
            for form in rows:
                self.refused_both(InvalidPlace, {"given": given}, form_sign, form=form, place=given)
                for other in rows:
                    self.refused_both(InvalidPlace, {"given": given}, is_alike_at, form=form, other=other, place=given)

    def all_last(self):
        for row in FLAT:
            yield Flat, {}, row
        for row, given in BEYOND:
            yield TooGreat, {"given": given}, row
        for row in FIVE:
            yield TooGreat, {"given": 5}, row

    def test_last_errors(self):
        good = Form((1, 0, 1))
        rows = list(self.all_last())
        for error, attributes, row in rows:
            for action, more in ONE:
                self.refused_both(error, attributes, action, form=Form(row), **more)
            for action, more in TWO:
                self.refused_both(error, attributes, action, form=Form(row), other=good, **more)
                self.refused_both(error, attributes, action, form=good, other=Form(row), **more)
                for _, _, other in rows:
                    self.refused_both(error, attributes, action, form=Form(row), other=Form(other), **more)

    def test_bounds_are_let(self):
        for row in ((100, 0, 100), (-100, 100, 100), (100,) * 5 + (99,), (100, 1, 2, 3, 100, 4, 5, 100, 6, -100)):
            form = Form(row)
            self.assertEqual(places_of(form)[:2], (0, 2))
            self.assertIn(form_sign(form, 2), (1, -1))
            self.assertIsNone(parting_place(form, form))
