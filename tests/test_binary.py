"""Binary forms, reduced forms and rings ([8], [14], [15])."""

from formworld.binary import discriminant_of, is_properly_alike, is_reduced, leading, proper_change, ring
from formworld.errors import NotAForm, NotBinary
from formworld.forms import Form
from tests import reference, two
from tests.cases import Case, NO_INTEGERS

NO_FORMS = NO_INTEGERS + (0, 5, "1 0 1", (1, 0, 1), Form)
WIDE, TILTED, ROOT = Form((2, 2, 3)), Form((2, 6, 7)), Form((1, 0, -2))
ONE = (discriminant_of, is_reduced, leading, ring)
TWO = (is_properly_alike, proper_change)
# More or fewer unknowns, flat, negative, squares as discriminants, discriminants beyond the limits.
NO_BINARY = (
    (1, 0, 0, 1, 0, 1), (1, 0, 0, 0, 1, 0, 0, 1, 0, 1), (1,) * 15, (0,) * 6, (0, 0, 0), (1, 2, 1), (0, 0, 5),
    (-1, 0, -1), (-2, -2, -3), (-1, 1, -1), (-10 ** 6, 1, -1), (1, 0, -1), (0, 1, 0), (0, 7, 12), (1, 3, 2), (2, 5, 2),
    (1, 0, 25001), (1, 1, 25001), (1, 0, -251), (1, 1, -250), (1, 0, 10 ** 12), (10 ** 12, 10 ** 12, 10 ** 12),
    (1, 10 ** 12, 1), (-10 ** 12, 0, 10 ** 12), (10 ** 12, 2 * 10 ** 6 - 1, 10 ** 12),
)
# Just inside.
BINARY = (
    ((1, 0, 25000), -100000), ((1, 1, 25000), -99999), ((1, 0, -249), 996), ((1, 1, -249), 997), ((2, 2, -124), 996),
    ((-1, 0, 2), 8), ((1, 1, 1), -3), ((1, 0, 1), -4), ((1, 1, -1), 5), ((-1, 1, 1), 5), ((50, 0, 50), -10000),
    ((100, 0, 250), -100000), ((10 ** 12, 2 * 10 ** 6, 1 + 0), 0),
)[:-1]


def small_binary(least, most):
    for d in two.discriminants(least, most):
        for row in two.all_reduced(d):
            yield d, row


class DiscriminantTest(Case):

    def test_examples(self):
        self.assertEqual(discriminant_of(WIDE), -20)
        self.assertEqual(discriminant_of(form=ROOT), 8)

    def test_bounds_are_let(self):
        for row, d in BINARY:
            self.assertEqual(discriminant_of(Form(row)), d)
            self.assertEqual(two.discriminant(row), d)
            self.assertEqual(discriminant_of(Form(row)), -Form(row).measure)

    def test_great_coefficients(self):
        source = reference.source(61)
        for d, row in small_binary(-60, 60):
            skew = two.acted(row, two.some_proper(source, 8))
            self.assertEqual(discriminant_of(Form(skew)), d)

    def test_which_forms_are_binary(self):
        """All small forms of two unknowns, asked by the words of [14]."""
        for a in range(-17, 18):
            for b in range(-33, 34, 3):
                for c in range(-17, 18):
                    form = Form((a, b, c))
                    d = b * b - 4 * a * c
                    good = two.is_discriminant(d) and (d > 0 or form.kind == "positive")
                    if good:
                        self.assertEqual(discriminant_of(form), d)
                    else:
                        self.refused(NotBinary, {"given": form}, discriminant_of, form)


class ReducedTest(Case):

    def test_examples(self):
        self.assertEqual([is_reduced(WIDE), is_reduced(Form((2, -2, 3)))], [True, False])

    def test_against_the_words(self):
        for a in range(-12, 13):
            for b in range(-12, 13):
                for c in range(-12, 13):
                    row = (a, b, c)
                    d = two.discriminant(row)
                    if two.is_discriminant(d) and (d > 0 or a > 0):
                        self.assertIs(is_reduced(Form(row)), two.is_reduced(row), row)

    def test_edges(self):
        wanted = {(2, 2, 2): True, (2, -2, 2): False, (2, -1, 2): False, (2, 1, 2): True, (3, -3, 5): False,
                  (3, 3, 5): True, (3, -2, 5): True, (3, 0, 2): False, (1, 1, 25000): True, (1, -1, 25000): False,
                  (1, 30, -24): True, (1, 31, -9): True, (-1, 31, 9): True, (1, -31, -9): False, (31, 1, -8): False}
        for row, truth in wanted.items():
            self.assertIs(is_reduced(Form(row)), truth, row)


class LeadingTest(Case):

    def test_examples(self):
        self.assertEqual([str(leading(TILTED)), str(leading(Form((3, 2, 2))))], ["2 2 3", "2 2 3"])
        self.assertEqual([str(leading(ROOT)), str(leading(Form((1, 0, -3)))), str(leading(Form((3, 0, -1))))],
                         ["-1 2 1", "-2 2 1", "-1 2 2"])
        self.assertEqual([len(ring(ROOT)), str(ring(ROOT)[1]), ring(WIDE) == (WIDE,)], [2, "1 2 -1", True])

    def test_rings_of_all_reduced_forms(self):
        for d in two.discriminants(-300, 300) + [-99999, -100000, -4999, 993, 996, 997, 940, 929]:
            for rows in two.rings(d):
                wanted = tuple(Form(row) for row in rows)
                for row in rows[:40]:
                    found = ring(Form(row))
                    self.assertIs(type(found), tuple)
                    self.assertEqual(found, wanted)
                    self.assertEqual(leading(form=Form(row)), wanted[0])
                self.assertEqual(min(rows), rows[0])

    def test_behind_proper_changes(self):
        source = reference.source(62)
        for d in two.discriminants(-60, 90) + [-100000, -99991, 997, 996, 993]:
            for rows in two.rings(d):
                for steps in (1, 4, 8):
                    skew = two.acted(source.choice(rows), two.some_proper(source, steps))
                    if max(map(abs, skew)) <= 10 ** 12:
                        self.assertEqual(ring(Form(skew)), tuple(Form(row) for row in rows))

    def test_against_additions_and_swaps(self):
        for a in range(-9, 10):
            for b in range(-15, 16):
                for c in range(-9, 10):
                    row = (a, b, c)
                    d = two.discriminant(row)
                    if two.is_discriminant(d) and (d > 0 or a > 0):
                        self.assertEqual(leading(Form(row)).coefficients, two.leader_of(row), row)

    def test_multiples(self):
        for d, row in small_binary(-40, 40):
            for many in (2, 3, 5):
                form = Form(row).times(many)
                self.assertEqual(ring(form), tuple(other.times(many) for other in ring(Form(row))))


class ProperTest(Case):

    def check_change(self, left, right):
        change = proper_change(left, right)
        self.assertIs(type(change), tuple)
        self.assertEqual([type(row) for row in change], [tuple, tuple])
        self.assertEqual(reference.determinant(change), 1)
        self.assertEqual(left.changed(change), right)
        self.assertTrue(is_properly_alike(left, right))

    def test_examples(self):
        left, right = Form((2, 1, 3)), Form((2, -1, 3))
        self.assertEqual([is_properly_alike(left, right), proper_change(left, right)], [False, None])
        self.assertFalse(is_properly_alike(ROOT, Form((1, 0, -3))))
        self.assertTrue(is_properly_alike(form=ROOT, other=ROOT.times(-1)))
        self.assertEqual(TILTED.changed(proper_change(form=TILTED, other=WIDE)), WIDE)

    def test_all_pairs_of_a_discriminant(self):
        for d in two.discriminants(-100, 60) + [-231, 136, 145, 316, 505]:
            rings = two.rings(d)
            rows = [(k, row) for k, one in enumerate(rings) for row in one]
            for k, row in rows[:14]:
                for m, other in rows[:14] + rows[-6:]:
                    left, right = Form(row), Form(other)
                    if k == m:
                        self.check_change(left, right)
                    else:
                        self.assertIs(is_properly_alike(left, right), False)
                        self.assertIsNone(proper_change(left, right))

    def test_behind_changes(self):
        source = reference.source(63)
        for d in two.discriminants(-40, 60) + [-3299, -100000, 409, 721, 919, 991, 997]:
            for rows in two.rings(d)[:8]:
                start = source.choice(rows)
                left = two.acted(start, two.some_proper(source, source.randint(1, 7)))
                right = two.acted(start, two.some_proper(source, source.randint(1, 7)))
                if max(map(abs, left + right)) <= 10 ** 12:
                    self.check_change(Form(left), Form(right))

    def test_improper_changes(self):
        """The form behind an improper change is properly alike just if the class is its own opposite."""
        source = reference.source(64)
        for d in two.discriminants(-120, 120):
            for rows in two.rings(d):
                a, b, c = two.acted(rows[0], two.some_proper(source, 3))
                left, right = Form((a, b, c)), Form((a, -b, c))
                if two.leader_of((a, -b, c)) == rows[0]:
                    self.check_change(left, right)
                else:
                    self.assertIs(is_properly_alike(left, right), False)
                    self.assertIsNone(proper_change(left, right))

    def test_unlike_contents_and_discriminants(self):
        for left, right in (((1, 0, 20), (2, 0, 10)), ((2, 4, 12), (1, 0, 20)), ((2, 2, 3), (1, 0, 6)),
                            ((1, 0, -2), (2, 0, -4)), ((1, 0, -2), (1, 0, 2)), ((1, 0, -12), (2, 0, -6))):
            self.assertFalse(is_properly_alike(Form(left), Form(right)))
            self.assertIsNone(proper_change(Form(left), Form(right)))

    def test_the_greatest_changes_can_be_passed(self):
        """Great coefficients on both sides, with the greatest units."""
        for d in (997, 991 + 5, 964, 921, 849, 681, 988, 1000 - 7):
            for rows in two.rings(d):
                ends = []
                for step in (((1, 5 * 10 ** 5), (0, 1)), ((1, 0), (-4 * 10 ** 5, 1))):
                    ends.extend([two.acted(row, step) for row in rows])
                ends = [Form(row) for row in ends if max(map(abs, row)) <= 10 ** 12]
                for left, right in ((ends[0], ends[len(ends) // 2]), (ends[-1], ends[1])):
                    self.check_change(left, right)


class RefusedTest(Case):

    def test_no_form(self):
        for given in NO_FORMS:
            for action in ONE:
                self.refused_both(NotAForm, {"given": given}, action, form=given)
            for action in TWO:
                self.refused_both(NotAForm, {"given": given}, action, form=given, other=WIDE)
                self.refused_both(NotAForm, {"given": given}, action, form=given, other=Form(NO_BINARY[0]))
                self.refused_both(NotAForm, {"given": given}, action, form=given, other=None)
                self.refused_both(NotAForm, {"given": given}, action, form=WIDE, other=given)
                self.refused_both(NotAForm, {"given": given}, action, form=Form(NO_BINARY[0]), other=given)

    def test_not_binary(self):
        for row in NO_BINARY:
            form = Form(row)
            for action in ONE:
                self.refused_both(NotBinary, {"given": form}, action, form=form)
            for action in TWO:
                self.refused_both(NotBinary, {"given": form}, action, form=form, other=ROOT)
                self.refused_both(NotBinary, {"given": form}, action, form=ROOT, other=form)
                for last in NO_BINARY[::4]:
                    self.refused_both(NotBinary, {"given": form}, action, form=form, other=Form(last))
