"""The vectors of positive forms up to a value ([9])."""

from formworld.errors import InvalidNumber, NotAForm, NotPositive, TooGreat
from formworld.forms import Form
from formworld.vectors import least_value, least_vectors, vectors_up_to
from tests import reference
from tests.cases import Case, NO_INTEGERS

# Bounds for which the listing of a box does not take long, by the number of unknowns.
BOUNDS = {2: (0, 1, 2, 7, 50, 200), 3: (0, 1, 5, 20), 4: (0, 1, 2, 6), 5: (0, 1, 2, 3)}
NO_FORMS = NO_INTEGERS + (0, 5, "1 0 1", (1, 0, 1), Form)

# Positive, with a coefficient of 1000, and their least values by hand.
GREAT = (
    ((1000, 0, 1000), 1000), ((1000, 1000, 1000), 1000), ((1000, -1000, 1000), 1000), ((1, 0, 1000), 1),
    ((1000, 1000, 251), 4), ((1000, 999, 250), 2), ((250, 999, 1000), 2), ((1000, 1000, 260), 40),
    ((1000, 0, 0, 1000, 0, 1000), 1000), ((1000, 1000, 1000, 1000, 1000, 1000), 1000),
    ((1000, 0, 0, 0, 1000, 0, 0, 1000, 0, 1000), 1000), ((1, 0, 0, 0, 1, 0, 0, 1, 0, 1000), 1),
    ((1000,) * 15, 1000), ((1000, 0, 0, 0, 0, 3, 0, 0, 0, 1000, 0, 0, 1000, 0, 1000), 3),
)


class UpToTest(Case):

    def check(self, row, bound, wanted):
        found = vectors_up_to(Form(row), bound)
        self.assertIs(type(found), tuple)
        self.assertTrue(all(type(vector) is tuple for vector in found))
        self.assertEqual(found, tuple(sorted(wanted)), (row, bound))

    def test_examples(self):
        wide = Form((2, 2, 3))
        self.assertEqual(vectors_up_to(wide, 3), ((-1, 0), (-1, 1), (0, -1), (0, 1), (1, -1), (1, 0)))
        self.assertEqual(vectors_up_to(form=wide, bound=1), ())
        self.assertEqual(vectors_up_to(bound=2, form=wide), ((-1, 0), (1, 0)))

    def test_against_a_box(self):
        for row in reference.POSITIVE:
            n = reference.unknowns(row)
            vectors = reference.listing(row, max(BOUNDS[n]))
            for bound in BOUNDS[n]:
                self.check(row, bound, [v for v, m in vectors.items() if 0 < m <= bound])

    def test_skew_forms(self):
        for skew, easy, _, back in reference.skew_forms(20, 6):
            bound = BOUNDS[reference.unknowns(easy)][-1]
            vectors = [v for v, m in reference.listing(easy, bound).items() if m > 0]
            self.check(skew, bound, [reference.image(back, vector) for vector in vectors])

    def test_skew_forms_in_their_own_box(self):
        for row in ((1, 60, 901), (901, 60, 1), (999, 63, 1), (15, 243, 985), (1000, 1000, 251), (250, 999, 1000),
                    (5, 70, 0, 250, 3, 9), (100, 40, 60, 6, 10, 12)):
            self.assertEqual(Form(row).kind, "positive", row)
            for bound in (0, 1, 10, 60):
                self.check(row, bound, [v for v, m in reference.listing(row, bound).items() if m > 0])

    def test_great_bounds(self):
        for row in ((1, 0, 0, 1, 0, 1), (3, 1, 0, 5, 2, 7)):
            self.check(row, 200, [v for v, m in reference.listing(row, 200).items() if m > 0])
        self.check((40, 3, 1, 0, 50, 2, 7, 45, 20, 60), 200,
                   [v for v, m in reference.listing((40, 3, 1, 0, 50, 2, 7, 45, 20, 60), 200).items() if m > 0])
        row = reference.diagonal((50, 60, 70, 90, 150))
        self.check(row, 200, [v for v, m in reference.listing(row, 200).items() if m > 0])

    def test_great_coefficients(self):
        for row, least in GREAT:
            for bound in (0, 3, 200):
                if least > bound:
                    self.check(row, bound, [])
        self.check((1, 0, 1000), 200, [(x, 0) for x in range(-14, 15) if x])
        self.check((1000, 0, 1), 200, [(0, x) for x in range(-14, 15) if x])

    def test_bound_nought(self):
        for row in reference.POSITIVE:
            self.assertEqual(vectors_up_to(Form(row), 0), ())

    def test_each_once_with_its_opposite(self):
        for row in reference.POSITIVE:
            if reference.unknowns(row) < 5:
                found = vectors_up_to(Form(row), 30)
                self.assertEqual(len(set(found)), len(found))
                self.assertEqual(tuple(tuple(-x for x in vector) for vector in reversed(found)), found)
                self.assertTrue(all(left < right for left, right in zip(found, found[1:])))


class LeastTest(Case):

    def test_examples(self):
        wide, eisen = Form((2, 2, 3)), Form((1, 1, 1))
        self.assertEqual([least_value(wide), least_vectors(wide), len(least_vectors(eisen)),
                          least_value(Form((7, 5, 3)))], [2, ((-1, 0), (1, 0)), 6, 3])
        self.assertEqual(least_value(form=wide), 2)
        self.assertEqual(least_vectors(form=eisen), ((-1, 0), (-1, 1), (0, -1), (0, 1), (1, -1), (1, 0)))

    def test_against_a_box(self):
        for row in reference.POSITIVE:
            vectors = reference.listing(row, min(row[i] for i in square_places(row)))
            least = min(m for m in vectors.values() if m > 0)
            self.assertEqual(least_value(Form(row)), least, row)
            wanted = tuple(sorted(v for v, m in vectors.items() if m == least))
            self.assertEqual(least_vectors(Form(row)), wanted, row)

    def test_skew_forms(self):
        for skew, easy, _, back in reference.skew_forms(21, 8):
            vectors = reference.listing(easy, easy[0])
            least = min(m for m in vectors.values() if m > 0)
            self.assertEqual(least_value(Form(skew)), least)
            wanted = tuple(sorted(reference.image(back, v) for v, m in vectors.items() if m == least))
            self.assertEqual(least_vectors(Form(skew)), wanted, skew)

    def test_great_coefficients(self):
        for row, least in GREAT:
            self.assertEqual(least_value(Form(row)), least, row)
            found = least_vectors(Form(row))
            self.assertTrue(found and all(reference.value(row, vector) == least for vector in found))

    def test_known_numbers(self):
        """The numbers of shortest vectors of the lattices A2, A3, D4, D5, A4, A5 and of whole numbers."""
        root = {
            (1, 1, 1): 6, (1, 1, 1, 1, 1, 1): 12, (1,) * 10: 20, (1,) * 15: 30,
            (1, -1, 0, 0, 1, -1, -1, 1, 0, 1): 24, (1, -1, 0, 0, 0, 1, -1, -1, 0, 1, 0, 0, 1, -1, 1): 40,
            reference.diagonal((1, 1)): 4, reference.diagonal((1, 1, 1)): 6,
            reference.diagonal((1, 1, 1, 1)): 8, reference.diagonal((1, 1, 1, 1, 1)): 10,
        }
        for row, many in root.items():
            self.assertEqual(len(least_vectors(Form(row))), many, row)
            self.assertEqual(len(least_vectors(Form(row).times(1000))), many, row)
            self.assertEqual(least_value(Form(row).times(1000)), 1000)


def square_places(row):
    n = reference.unknowns(row)
    return [i * n - i * (i - 1) // 2 for i in range(n)]


class RefusedTest(Case):

    def test_no_form(self):
        for given in NO_FORMS:
            self.refused_both(NotAForm, {"given": given}, vectors_up_to, form=given, bound=3)
            self.refused_both(NotAForm, {"given": given}, vectors_up_to, form=given, bound=None)
            self.refused_both(NotAForm, {"given": given}, least_value, form=given)
            self.refused_both(NotAForm, {"given": given}, least_vectors, form=given)

    def test_wrong_bounds(self):
        for form in (Form((1, 0, 1)), Form((1,) * 15), Form((0, 0, 0)), Form((1001, 0, 1)), Form((1, 0, -1001))):
            for bound in NO_INTEGERS + (-1, 201, -10 ** 79, 10 ** 79, form):
                self.refused_both(InvalidNumber, {"given": bound}, vectors_up_to, form=form, bound=bound)

    def test_not_positive(self):
        for row in ((0, 0, 0), (1, 2, 1), (-1, 0, -1), (1, 0, -1), (0, 1, 0), (1001, 0, 0), (1001, 0, -1001),
                    (-5000, 0, 1), (1, 0, 0, 1, 0, 0), (1, 0, 0, 1, 0, -1), (-1, 0, 0, 0, -1, 0, 0, -1, 0, -1),
                    (0,) * 15, (1, 0, 0, 0, 0, 1, 0, 0, 0, 1, 0, 0, 1, 0, 0), (10 ** 12, 0, -10 ** 12)):
            self.refused_both(NotPositive, {}, vectors_up_to, form=Form(row), bound=200)
            self.refused_both(NotPositive, {}, least_value, form=Form(row))
            self.refused_both(NotPositive, {}, least_vectors, form=Form(row))

    def test_too_great(self):
        for row, given in (((1001, 0, 1), 1001), ((1, 0, 1001), 1001), ((1000, 1001, 1000), 1001),
                           ((1000, -1001, 1000), -1001), ((2000, -1500, 3000), 2000), ((10 ** 12, 0, 5), 10 ** 12),
                           ((1000, 0, 0, 1000, -1002, 1001), -1002), ((1, 0, 0, 0, 1, 0, 0, 1, 0, 1001), 1001),
                           (reference.diagonal((1000, 1000, 1000, 1000, 4000)), 4000)):
            self.refused_both(TooGreat, {"given": given}, vectors_up_to, form=Form(row), bound=0)
            self.refused_both(TooGreat, {"given": given}, least_value, form=Form(row))
            self.refused_both(TooGreat, {"given": given}, least_vectors, form=Form(row))

    def test_nothing_is_changed(self):
        form = Form((1, 60, 901))
        for _ in range(2):
            self.assertEqual(len(vectors_up_to(form, 200)), len(vectors_up_to(Form((1, 0, 1)), 200)))
        self.assertEqual(form, Form((1, 60, 901)))
