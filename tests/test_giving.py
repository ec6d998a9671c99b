"""The numbers that positive forms give, and how often ([10])."""

import itertools
import math

from formworld.errors import InvalidNumber, NotAForm, NotPositive, TooGreat
from formworld.forms import Form
from formworld.giving import count_proper, count_writings, gives, gives_all, least_missed, missed, writings
from tests import reference
from tests.cases import Case, NO_INTEGERS

NO_FORMS = NO_INTEGERS + (0, 5, "1 0 1", (1, 0, 1), Form)
MOST = {2: 60, 3: 30, 4: 9, 5: 4}
NINE = (1, 2, 3, 5, 6, 7, 10, 14, 15)
TWENTY_NINE = (1, 2, 3, 5, 6, 7, 10, 13, 14, 15, 17, 19, 21, 22, 23, 26, 29, 30, 31, 34, 35, 37, 42, 58, 93, 110, 145,
               203, 290)
WITH_NUMBER = ((gives, "number"), (writings, "number"), (count_writings, "number"), (count_proper, "number"),
               (missed, "most"))

# Forms that miss just one number at all: the key. The first nine are even between.
MISSING_ONE = {
    1: (reference.diagonal((2, 3, 4, 5)), reference.diagonal((2, 2, 3, 4))),
    2: (reference.diagonal((1, 3, 3, 5)),), 3: (reference.diagonal((1, 1, 4, 5)),),
    5: (reference.diagonal((1, 2, 6, 6)),), 6: (reference.diagonal((1, 1, 3, 7)),),
    7: (reference.diagonal((1, 1, 1, 9)),), 10: (reference.diagonal((1, 2, 3, 11)), (1, 0, -2, 1, 2, -2, 2, 5, -3, 7)),
    14: (reference.diagonal((1, 1, 2, 15)), (1, 0, 3, 0, 2, 1, 3, 5, 1, 7)),
    15: (reference.diagonal((1, 2, 5, 5)), (1, 0, 0, -1, 1, 0, 1, 3, 1, 6)),
    13: ((1, 0, 1, 0, 2, 2, -2, 5, -1, 10),), 17: ((1, 1, -1, 0, 2, 1, 0, 3, 0, 18),),
    19: ((1, 1, -1, -3, 2, -1, 2, 3, -2, 10),), 21: ((1, 0, -2, 0, 2, 2, 0, 5, -7, 7),),
    22: ((1, 0, -1, 0, 1, 0, 0, 3, 0, 23),), 23: ((1, 0, 0, 1, 2, 2, 0, 5, 0, 7),),
    26: ((1, 0, 0, -1, 2, 4, 0, 5, 6, 10),), 29: ((1, 0, -1, 0, 2, -1, 0, 5, 0, 30),),
    30: ((1, 0, 1, 1, 2, 1, -2, 5, -1, 29),), 31: ((1, 0, -2, 0, 2, -1, 0, 5, 0, 32),),
    34: ((1, 1, 1, 0, 2, 2, 0, 3, 0, 17),), 35: ((1, 0, -1, 0, 1, 2, 0, 3, 7, 21),),
    37: ((1, 0, -1, 0, 2, 1, -1, 5, -4, 29),), 42: ((1, 1, 1, 0, 2, -3, 0, 3, 0, 21),),
    58: ((1, 0, 0, 3, 2, 4, 1, 5, -2, 10),), 93: ((1, 0, -2, 0, 2, 1, 1, 5, 7, 31),),
    110: ((1, 0, -1, 0, 1, 0, 0, 3, 0, 22),),
}
# The form 1 0 -1 0 2 -3 0 5 0 29 misses 145, 203 and 290; with a further square it misses one of them.
LATE = (1, 0, -1, 0, 2, -3, 0, 5, 0, 29)
LATE_ONES = {145: 146, 203: 58, 290: 87}


class WritingsTest(Case):

    def test_examples(self):
        wide, circle, four = Form((2, 2, 3)), Form((1, 0, 1)), Form((1, 0, 0, 0, 1, 0, 0, 1, 0, 1))
        self.assertEqual([gives(wide, 7), gives(wide, 1), writings(wide, 3), count_writings(circle, 25),
                          count_proper(circle, 25), missed(circle, 12), count_writings(four, 5)],
                         [True, False, ((-1, 1), (0, -1), (0, 1), (1, -1)), 12, 8, (3, 6, 7, 11, 12), 48])
        self.assertEqual(writings(number=3, form=wide), writings(wide, 3))

    def check(self, row, vectors, most):
        """Against all vectors up to `most`, with their values."""
        form = Form(row)
        by_number = {m: [] for m in range(1, most + 1)}
        for vector, m in vectors.items():
            if m > 0:
                by_number[m].append(vector)
        self.assertEqual(missed(form, most), tuple(m for m in by_number if not by_number[m]), row)
        for m, wanted in by_number.items():
            found = writings(form, m)
            self.assertEqual(found, tuple(sorted(wanted)), (row, m))
            self.assertIs(gives(form, m), bool(wanted), (row, m))
            self.assertEqual(count_writings(form, m), len(wanted), (row, m))
            self.assertEqual(count_proper(form, m), sum(math.gcd(*v) == 1 for v in wanted), (row, m))

    def test_against_a_box(self):
        for row in reference.POSITIVE:
            most = MOST[reference.unknowns(row)]
            self.check(row, reference.listing(row, most), most)

    def test_skew_forms(self):
        for skew, easy, _, back in reference.skew_forms(40, 4):
            most = MOST[reference.unknowns(easy)] - 1
            vectors = {reference.image(back, v): m for v, m in reference.listing(easy, most).items()}
            self.check(skew, vectors, most)

    def test_more_forms(self):
        source = reference.source(41)
        for size, squares, most in ((3, (0, 2), 40), (6, (0, 3, 5), 16), (10, (0, 4, 7, 9), 12), (15, (0, 5, 9, 12, 14), 10)):
            found = 0
            while found < 8:
                row = tuple(source.randint(2, 9) if k in squares else source.randint(-4, 4) for k in range(size))
                if reference.signature(row) != (reference.unknowns(row), 0):
                    continue
                if math.prod(2 * b + 1 for b in reference.box(row, most)) < 30000:
                    self.check(row, reference.listing(row, most), most)
                    found += 1

    def test_the_number_1000(self):
        for row in ((1, 0, 1), (2, 2, 3), (1, 1, 1), (1000, 0, 1000), (40, 0, 0, 60, 0, 50), (30, 7, 8, 40, -9, 50),
                    (100, 3, 2, -1, 120, 9, 5, 130, -30, 111), (1000, 1000, 251)):
            vectors = [v for v, m in reference.listing(row, 1000).items() if m == 1000]
            form = Form(row)
            self.assertEqual(writings(form, 1000), tuple(sorted(vectors)))
            self.assertIs(gives(form, 1000), bool(vectors))
            self.assertEqual(count_writings(form, 1000), len(vectors))
            self.assertEqual(count_proper(form, 1000), sum(math.gcd(*v) == 1 for v in vectors))
            given = set(reference.listing(row, 1000).values())
            self.assertEqual(missed(form, 1000), tuple(m for m in range(1, 1001) if m not in given))

    def test_the_number_1(self):
        for row, many in (((1, 0, 1), 4), ((1, 1, 1), 6), ((2, 2, 3), 0), ((1,) * 10, 20), ((1,) * 15, 30),
                          (reference.diagonal((1, 1, 1, 1, 1)), 10), ((1000, 0, 1), 2), ((1000, 0, 1000), 0)):
            form = Form(row)
            self.assertEqual((count_writings(form, 1), count_proper(form, 1), len(writings(form, 1))), (many,) * 3)
            self.assertIs(gives(form, 1), many > 0)
            self.assertEqual(missed(form, 1), () if many else (1,))

    def test_known_counts(self):
        """Sums of two, four and five squares: by Jacobi, and added up."""
        circle, four = Form((1, 0, 1)), Form(reference.diagonal((1, 1, 1, 1)))
        five = Form(reference.diagonal((1, 1, 1, 1, 1)))

        def jacobi(n):
            return 8 * sum(d for d in range(1, n + 1) if n % d == 0 and d % 4) if n else 1

        for number in (1, 2, 3, 25, 64, 65, 325, 999, 1000):
            odd = [d for d in range(1, number + 1, 2) if number % d == 0]
            self.assertEqual(count_writings(circle, number), 4 * sum(1 if d % 4 == 1 else -1 for d in odd))
            self.assertEqual(count_writings(four, number), jacobi(number))
        for number in (1, 10, 77, 200):
            wanted = sum(jacobi(number - x * x) for x in range(-14, 15) if x * x <= number)
            self.assertEqual(count_writings(five, number), wanted)
            self.assertEqual(len(writings(five, number)), wanted)
        self.assertEqual(count_writings(five, 1000), sum(jacobi(1000 - x * x) for x in range(-31, 32)))

    def test_missed_numbers(self):
        ball = Form((1, 0, 0, 1, 0, 1))
        self.assertEqual(missed(ball, 100), (7, 15, 23, 28, 31, 39, 47, 55, 60, 63, 71, 79, 87, 92, 95))
        self.assertEqual(missed(ball, 6), ())
        self.assertEqual(missed(ball, 7), (7,))
        self.assertEqual(missed(most=2, form=Form((1000, 0, 1000))), (1, 2))
        self.assertEqual(len(missed(Form((1000, 0, 1000)), 1000)), 999)
        self.assertEqual(len(missed(Form((1000, 0, 1000)), 999)), 999)
        self.assertEqual(missed(Form(reference.diagonal((1, 1, 1, 1, 1))), 1000), ())
        for squares in ((1, 2), (3, 5, 7), (2, 3, 4, 5), (5, 5, 5, 5), (1, 1, 3, 9, 30), (2, 4, 6, 8, 10)):
            given = reference.diagonal_given(squares, 1000)
            wanted = tuple(m for m in range(1, 1001) if m not in given)
            self.assertEqual(missed(Form(reference.diagonal(squares)), 1000), wanted, squares)


class AllTest(Case):

    def test_examples(self):
        four, ball, circle = (Form(reference.diagonal((1,) * n)) for n in (4, 3, 2))
        five, eisen = Form((1, 0, 0, 0, 2, 0, 0, 5, 0, 5)), Form((1, 1, 1))
        self.assertEqual([gives_all(four), least_missed(four), least_missed(ball), least_missed(circle),
                          least_missed(five), least_missed(eisen), gives_all(Form((1, 0, 0, 0, 1, 0, 0, 2, 0, 3)))],
                         [True, None, 7, 3, 15, 2, True])
        self.assertEqual((gives_all(form=four), least_missed(form=four)), (True, None))

    def check(self, row, given):
        """`given` holds the numbers up to 290 that the form gives."""
        wanted = [m for m in range(1, 291) if m not in given]
        form = Form(row)
        self.assertIs(gives_all(form), not wanted, row)
        self.assertEqual(least_missed(form), wanted[0] if wanted else None, row)

    def test_two_and_three_unknowns_never_do(self):
        for row in reference.POSITIVE:
            if reference.unknowns(row) < 4:
                self.check(row, reference.given_numbers(row, 290))
                self.assertFalse(gives_all(Form(row)))

    def test_four_and_five_unknowns(self):
        for row in reference.POSITIVE:
            if reference.unknowns(row) == 4:
                self.check(row, reference.given_numbers(row, 290))
        for row in (reference.diagonal((1,) * 5), (1,) * 15, (1, 1, 0, 0, 0, 1, 1, 0, 0, 1, 1, 0, 1, 1, 1)):
            self.assertTrue(gives_all(Form(row)))
        self.assertEqual(least_missed(Form((2, 1, 0, -1, 0, 2, 1, 0, 0, 3, 0, 1, 3, -1, 4))), 1)

    def test_ramanujan(self):
        """Of sums of four squares with factors just 54 give all numbers."""
        found = 0
        for squares in itertools.combinations_with_replacement(range(1, 15), 4):
            if squares[0] > 1 or squares[1] > 2 or squares[2] > 5:
                continue
            given = reference.diagonal_given(squares, 290)
            self.check(reference.diagonal(squares), given)
            found += len(given) == 290
        self.assertEqual(found, 54)

    def test_sums_of_two_forms(self):
        """Two forms of two unknowns side by side, most of them not even between, also behind changes."""
        source = reference.source(42)
        pairs = ((1, 0, 1), (1, 1, 1), (1, 1, 2), (1, 0, 2), (1, 1, 3), (2, 1, 2), (2, 2, 3), (1, 1, 4), (3, 1, 5))
        given = {row: reference.given_numbers(row, 290) | {0} for row in pairs}
        outcomes = set()
        for left, right in itertools.combinations_with_replacement(pairs, 2):
            both = reference.joined(left, right)
            numbers = reference.sums(given[left], given[right], 290)
            self.check(both, numbers)
            forth, _ = reference.some_change(source, 4, 4)
            other = reference.changed(both, forth)
            if max(map(abs, other)) <= 1000:
                self.check(other, numbers)
            outcomes.add(len(numbers) == 291)
        self.assertEqual(outcomes, {True, False})

    def test_just_one_number_missed(self):
        told = sorted(list(MISSING_ONE) + list(LATE_ONES))
        self.assertEqual(told, sorted(TWENTY_NINE))
        for number, rows in MISSING_ONE.items():
            for row in rows:
                given = reference.given_numbers(row, 290)
                self.assertEqual([m for m in TWENTY_NINE if m not in given], [number], row)
                self.check(row, given)
                self.assertEqual(missed(Form(row), 290), (number,))
            if number in NINE:
                self.assertTrue(Form(rows[0]).is_even_between)

    def test_late_numbers(self):
        given = reference.given_numbers(LATE, 290)
        self.assertEqual([m for m in range(1, 291) if m not in given], [145, 203, 290])
        self.check(LATE, given)
        for number, square in LATE_ONES.items():
            row = reference.joined(LATE, (square,))
            numbers = reference.sums(given | {0}, [0, square, 4 * square], 290)
            self.assertEqual([m for m in range(1, 291) if m not in numbers], [number])
            self.check(row, numbers)
            self.assertEqual(missed(Form(row), 1000), (number,))


class RefusedTest(Case):

    def test_no_form(self):
        for given in NO_FORMS:
            for action, name in WITH_NUMBER:
                self.refused_both(NotAForm, {"given": given}, action, **{"form": given, name: 3})
                self.refused_both(NotAForm, {"given": given}, action, **{"form": given, name: None})
            self.refused_both(NotAForm, {"given": given}, gives_all, form=given)
            self.refused_both(NotAForm, {"given": given}, least_missed, form=given)

    def test_wrong_numbers(self):
        for row in ((1, 0, 1), (0, 0, 0), (1001, 0, 1), (1,) * 15, (-1, 0, 2000)):
            form = Form(row)
            for number in NO_INTEGERS + (0, -1, 1001, -1000, 10 ** 79, form):
                for action, name in WITH_NUMBER:
                    self.refused_both(InvalidNumber, {"given": number}, action, **{"form": form, name: number})

    def test_not_positive(self):
        for row in ((0, 0, 0), (1, 2, 1), (-1, 0, -1), (1, 0, -1), (1001, 0, 0), (1001, 0, -1001),
                    (1, 0, 0, 1, 0, 0), (-1, 0, 0, 0, -1, 0, 0, -1, 0, -1), (0,) * 15):
            for action, name in WITH_NUMBER:
                self.refused_both(NotPositive, {}, action, **{"form": Form(row), name: 1})
            self.refused_both(NotPositive, {}, gives_all, form=Form(row))
            self.refused_both(NotPositive, {}, least_missed, form=Form(row))

    def test_too_great(self):
        for row, given in (((1001, 0, 1), 1001), ((1, 0, 1001), 1001), ((1000, -1001, 1000), -1001),
                           ((1, 0, 0, 0, 1, 0, 0, 1, 0, 1001), 1001),
                           (reference.diagonal((1, 1, 1, 1, 2000)), 2000)):
            for action, name in WITH_NUMBER:
                self.refused_both(TooGreat, {"given": given}, action, **{"form": Form(row), name: 1000})
            self.refused_both(TooGreat, {"given": given}, gives_all, form=Form(row))
            self.refused_both(TooGreat, {"given": given}, least_missed, form=Form(row))

    def test_bounds_are_let(self):
        form = Form(reference.diagonal((1000, 1000, 1000, 1000, 1000)))
        self.assertEqual((count_writings(form, 1000), count_writings(form, 1)), (10, 0))
        self.assertEqual((gives(form, 1000), gives(form, 1), least_missed(form), gives_all(form)),
                         (True, False, 1, False))
