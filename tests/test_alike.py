"""Which positive forms are alike, the least form, and own changes ([8], [9])."""

import itertools

from formworld.alike import change_between, count_own, count_own_proper, is_alike, is_mirrored, least_form
from formworld.errors import NotAForm, NotPositive, TooGreat
from formworld.forms import Form
from formworld.giving import count_writings, missed
from tests import reference
from tests.cases import Case, NO_INTEGERS

NO_FORMS = NO_INTEGERS + (0, 5, "1 0 1", (1, 0, 1), Form)
ONE = (least_form, count_own, count_own_proper, is_mirrored)
TWO = (change_between, is_alike)
FEW = tuple(row for row in reference.POSITIVE if len(row) < 15)
NOT_POSITIVE = ((0, 0, 0), (1, 2, 1), (-1, 0, -1), (1, 0, -1), (1001, 0, -1001), (1, 0, 0, 1, 0, 0),
                (-1, 0, 0, 0, -1, 0, 0, -1, 0, -1), (0,) * 15, reference.diagonal((1, 1, 1, 1, -1)),
                reference.diagonal((2000, 1, 1, 1, -1)))
BEYOND = (((1001, 0, 1), 1001), ((1, 0, 1001), 1001), ((1000, -1001, 1000), -1001), ((2000, 1500, 3000), 2000),
          ((1, 0, 0, 0, 1, 0, 0, 1, 0, 1001), 1001), (reference.diagonal((1, 1, 1, 1, 2000)), 2000))
FIVE = (reference.diagonal((1, 1, 1, 1, 1)), (1,) * 15, reference.diagonal((1000, 1000, 1000, 1000, 1000)))

# Own changes and proper ones, as they are known: whole numbers, sums of such with unlike squares, lattices of roots.
KNOWN = (
    ((1, 0, 1), 8, 4), ((1, 0, 2), 4, 2), ((1, 1, 1), 12, 6), ((2, 1, 3), 2, 2), ((2, 2, 3), 4, 2), ((1, 1, 2), 4, 2),
    ((5, 1, 5), 4, 2), ((7, 0, 7), 8, 4), ((6, 6, 6), 12, 6), ((3, 2, 4), 2, 2),
    (reference.diagonal((1, 1, 1)), 48, 24), (reference.diagonal((1, 1, 2)), 16, 8),
    (reference.diagonal((1, 2, 3)), 8, 4), ((1, 1, 1, 1, 1, 1), 48, 24), ((1, 1, 0, 1, 0, 1), 24, 12),
    ((1, 1, 0, 1, 0, 5), 24, 12), (reference.diagonal((1, 1, 1, 1)), 384, 192),
    (reference.diagonal((1, 1, 1, 2)), 96, 48), (reference.diagonal((1, 1, 2, 2)), 64, 32),
    (reference.diagonal((1, 2, 3, 4)), 16, 8), ((1,) * 10, 240, 120), ((1, -1, 0, 0, 1, -1, -1, 1, 0, 1), 1152, 576),
    ((1, 1, 0, 0, 1, 0, 0, 1, 1, 1), 288, 144), ((1, 1, 0, 0, 1, 0, 0, 1, 0, 1), 96, 48),
    (reference.diagonal((1, 1, 1, 1000)), 96, 48), (reference.diagonal((1000, 1000, 1000, 1000)), 384, 192),
)


def squares_of(row):
    n = reference.unknowns(row)
    return tuple(row[i * n - i * (i - 1) // 2] for i in range(n))


def same_numbers_pair(a, b, c, d):
    """Two forms of four unknowns that give each number equally often, and are not alike (Conway and Sloane)."""
    forms = []
    for s in (3, -3):
        rows = ((s, -1, -1, -1), (1, s, 1, -1), (1, -1, s, 1), (1, 1, -1, s))
        forms.append(tuple(
            sum(w * x * y for w, x, y in zip((a, b, c, d), rows[i], rows[j])) * (1 if i == j else 2) // 12
            for i in range(4) for j in range(i, 4)))
    return forms


class LeastFormTest(Case):

    def test_examples(self):
        self.assertEqual([str(least_form(Form.read("2 6 7"))), str(least_form(form=Form((5, 0, 1))))],
                         ["2 -2 3", "1 0 5"])

    def test_by_hand(self):
        for row, least in (
            ((1, 0, 1), "1 0 1"), ((1, 1, 1), "1 -1 1"), ((3, 2, 2), "2 -2 3"), ((2, 1, 3), "2 -1 3"),
            ((10, 14, 5), "1 0 1"), ((1, 60, 901), "1 0 1"), ((1000, 0, 1), "1 0 1000"), ((1000, 0, 999), "999 0 1000"),
            ((1000, 1000, 1000), "1000 -1000 1000"), (reference.diagonal((3, 1, 2)), "1 0 0 2 0 3"),
            (reference.diagonal((4, 3, 2, 1)), "1 0 0 0 2 0 0 3 0 4"),
        ):
            self.assertEqual(str(least_form(Form(row))), least)

    def test_against_all_bases(self):
        """Among short vectors; with two and three unknowns among far more than can be needed."""
        for row in FEW:
            most = max(squares_of(row)) * (2 if len(row) < 10 else 1)
            least = reference.least_of_bases(row, most)
            self.assertEqual(least_form(Form(row)).coefficients, least, row)

    def test_all_small_forms(self):
        """All forms of two unknowns with small coefficients, and some of three, against all bases."""
        for row in itertools.product(range(1, 6), range(-6, 7), range(1, 6)):
            if 4 * row[0] * row[2] > row[1] ** 2:
                self.assertEqual(least_form(Form(row)).coefficients, reference.least_of_bases(row, max(row[0], row[2])))
        source = reference.source(30)
        for _ in range(150):
            row = tuple(source.randint(1, 4) if k in (0, 3, 5) else source.randint(-3, 3) for k in range(6))
            if reference.signature(row) == (3, 0):
                self.assertEqual(least_form(Form(row)).coefficients,
                                 reference.least_of_bases(row, max(squares_of(row))), row)

    def test_four_unknowns(self):
        source = reference.source(31)
        found = 0
        while found < 40:
            row = tuple(source.randint(1, 4) if k in (0, 4, 7, 9) else source.randint(-3, 3) for k in range(10))
            if reference.signature(row) != (4, 0) or len(reference.listing(row, max(squares_of(row)))) > 31:
                continue
            found += 1
            self.assertEqual(least_form(Form(row)).coefficients,
                             reference.least_of_bases(row, max(squares_of(row))), row)

    def test_the_same_behind_changes(self):
        source = reference.source(32)
        for row in FEW:
            least = least_form(Form(row))
            self.assertEqual(least_form(least), least)
            for proper in (True, False):
                for steps in (2, 5, 9):
                    forth, _ = reference.some_change(source, reference.unknowns(row), steps, proper)
                    other = reference.changed(row, forth)
                    if max(map(abs, other)) <= 1000:
                        self.assertEqual(least_form(Form(other)), least, (row, forth))

    def test_skew_forms(self):
        known = {}
        for skew, easy, _, _ in reference.skew_forms(33, 8):
            if len(easy) == 15:
                continue
            if easy not in known:
                known[easy] = reference.least_of_bases(easy, max(squares_of(easy)))
            self.assertEqual(least_form(Form(skew)).coefficients, known[easy], skew)

    def test_is_the_least_of_many(self):
        source = reference.source(34)
        for row in FEW:
            least = least_form(Form(row)).coefficients
            key = (squares_of(least), least)
            for _ in range(40):
                forth, _ = reference.some_change(source, reference.unknowns(row), source.randint(0, 3))
                other = reference.changed(least, forth)
                self.assertLessEqual(key, (squares_of(other), other))


class ChangesTest(Case):

    def check(self, left, right):
        """A told change makes the one form into the other, both ways."""
        for first, second in ((left, right), (right, left)):
            change = change_between(Form(first), Form(second))
            self.assertIs(type(change), tuple)
            self.assertTrue(all(type(row) is tuple and all(type(x) is int for x in row) for row in change))
            self.assertEqual(abs(reference.determinant(change)), 1)
            self.assertEqual(reference.changed(first, change), second)
            self.assertEqual(Form(first).changed(change), Form(second))
            self.assertIs(is_alike(Form(first), Form(second)), True)

    def refute(self, left, right):
        for first, second in ((left, right), (right, left)):
            self.assertIsNone(change_between(Form(first), Form(second)))
            self.assertIs(is_alike(Form(first), Form(second)), False)

    def test_examples(self):
        wide, main, tilted = Form((2, 2, 3)), Form((1, 0, 5)), Form.read("2 6 7")
        self.assertEqual([is_alike(wide, tilted), is_alike(wide, main), change_between(wide, main)],
                         [True, False, None])
        self.assertTrue(wide.changed(change_between(wide, tilted)) == tilted)
        self.assertTrue(wide.changed(change_between(other=tilted, form=wide)) == tilted)
        self.assertIs(is_alike(other=tilted, form=wide), True)

    def test_alike(self):
        source = reference.source(35)
        for row in FEW:
            self.check(row, row)
            for proper in (True, False):
                for steps in (1, 3, 6, 9):
                    forth, _ = reference.some_change(source, reference.unknowns(row), steps, proper)
                    other = reference.changed(row, forth)
                    if max(map(abs, other)) <= 1000:
                        self.check(row, other)

    def test_skew_forms(self):
        by_easy = {}
        for skew, easy, _, _ in reference.skew_forms(36, 5):
            if len(easy) < 15:
                self.check(easy, skew)
                by_easy.setdefault(easy, []).append(skew)
        for row in by_easy.values():
            self.check(row[0], row[1])
        firsts = [row[0] for row in by_easy.values()]
        for left, right in itertools.combinations(firsts, 2):
            self.refute(left, right)

    def test_opposite_classes_are_alike(self):
        self.check((2, 1, 3), (2, -1, 3))
        self.check((3, 2, 4), (3, -2, 4))

    def test_not_alike(self):
        for left, right in (
            ((1, 0, 5), (2, 2, 3)), ((1, 1, 6), (2, 1, 3)), ((1, 0, 6), (2, 0, 3)), ((1, 0, 1), (1, 0, 2)),
            ((1, 0, 1), (2, 0, 2)), ((1, 1, 1), (1, 0, 3)), ((2, 1, 3), (1, 0, 23)), ((999, 0, 1000), (1, 0, 1000)),
            (reference.diagonal((1, 1, 6)), reference.diagonal((1, 2, 3))),
            (reference.diagonal((1, 4, 4)), reference.diagonal((2, 2, 4))),
            ((1, 0, 0, 1, 0, 1), (1, 1, 1, 1, 1, 1)),
            (reference.diagonal((1, 1, 1, 4)), reference.diagonal((1, 1, 2, 2))),
            ((1, -1, 0, 0, 1, -1, -1, 1, 0, 1), (1,) * 10),
        ):
            self.refute(left, right)

    def test_same_measure_and_same_numbers(self):
        """Forms that give all numbers and have one measure; forms that give each number equally often."""
        for left, right in itertools.combinations(((1, 1, 2, 6), (1, 1, 3, 4), (1, 2, 2, 3)), 2):
            forms = [Form(reference.diagonal(row)) for row in (left, right)]
            self.assertEqual(forms[0].measure, forms[1].measure)
            self.assertEqual(missed(forms[0], 300), missed(forms[1], 300))
            self.refute(forms[0].coefficients, forms[1].coefficients)
        for rest in ((1, 7, 13, 19), (1, 7, 13, 31)):
            left, right = same_numbers_pair(*rest)
            self.assertEqual(Form(left).measure, Form(right).measure)
            for number in range(1, 60):
                self.assertEqual(count_writings(Form(left), number), count_writings(Form(right), number))
            self.refute(left, right)

    def test_unlike_numbers_of_unknowns(self):
        rows = ((1, 0, 1), (1, 0, 0, 1, 0, 1), (1, 0, 0, 0, 1, 0, 0, 1, 0, 1), (2, 0, 2), (1, 0, 0, 1, 0, 2))
        for left, right in itertools.combinations(rows, 2):
            if len(left) != len(right):
                self.refute(left, right)

    def test_equal_calls_equal_results(self):
        wide, tilted = Form((2, 2, 3)), Form((2, 6, 7))
        self.assertEqual(change_between(wide, tilted), change_between(Form((2, 2, 3)), Form((2, 6, 7))))


class OwnTest(Case):

    def test_examples(self):
        wide, ball, eisen, left = Form((2, 2, 3)), Form((1, 0, 0, 1, 0, 1)), Form((1, 1, 1)), Form((2, 1, 3))
        four = Form((1, 0, 0, 0, 1, 0, 0, 1, 0, 1))
        self.assertEqual([count_own(wide), count_own_proper(wide), count_own(ball), count_own_proper(ball),
                          count_own(eisen), count_own(left), is_mirrored(left), is_mirrored(wide), count_own(four)],
                         [4, 2, 48, 24, 12, 2, False, True, 384])
        self.assertEqual((count_own(form=wide), count_own_proper(form=wide), is_mirrored(form=wide)), (4, 2, True))

    def test_known(self):
        for row, own, proper in KNOWN:
            form = Form(row)
            self.assertEqual((count_own(form), count_own_proper(form)), (own, proper), row)
            self.assertIs(is_mirrored(form), own != proper, row)

    def test_against_all_tuples_of_vectors(self):
        for row in FEW:
            own, proper = reference.own_changes(row)
            self.assertEqual((count_own(Form(row)), count_own_proper(Form(row))), (own, proper), row)
            self.assertIs(is_mirrored(Form(row)), own != proper)

    def test_behind_changes(self):
        known = {row: (own, proper) for row, own, proper in KNOWN}
        for skew, easy, _, _ in reference.skew_forms(37, 4):
            if len(easy) < 15:
                if easy not in known:
                    known[easy] = reference.own_changes(easy)
                form = Form(skew)
                self.assertEqual((count_own(form), count_own_proper(form)), known[easy], skew)
                self.assertIs(is_mirrored(form), known[easy][0] != known[easy][1])

    def test_many_small_forms(self):
        source = reference.source(38)
        mirrors = set()
        for size, squares in ((3, (0, 2)), (6, (0, 3, 5)), (10, (0, 4, 7, 9))):
            for _ in range(60):
                row = tuple(source.randint(1, 4) if k in squares else source.randint(-3, 3) for k in range(size))
                if reference.signature(row) != (reference.unknowns(row), 0):
                    continue
                if len(reference.listing(row, max(squares_of(row)))) > 200:
                    continue
                own, proper = reference.own_changes(row)
                self.assertEqual((count_own(Form(row)), count_own_proper(Form(row))), (own, proper), row)
                self.assertIs(is_mirrored(Form(row)), own != proper)
                mirrors.add((size, own != proper))
        self.assertIn((3, False), mirrors)
        self.assertIn((10, False), mirrors)
        self.assertIn((6, True), mirrors)


class RefusedTest(Case):

    def test_no_form(self):
        good = Form((1, 0, 1))
        for given in NO_FORMS:
            for action in ONE:
                self.refused_both(NotAForm, {"given": given}, action, form=given)
            for action in TWO:
                self.refused_both(NotAForm, {"given": given}, action, form=given, other=good)
                self.refused_both(NotAForm, {"given": given}, action, form=good, other=given)
                self.refused_both(NotAForm, {"given": given}, action, form=given, other=[])
                self.refused_both(NotAForm, {"given": given}, action, form=Form((0, 0, 0)), other=given)
                self.refused_both(NotAForm, {"given": given}, action, form=Form(FIVE[0]), other=given)

    def test_last_errors(self):
        good = Form((1, 0, 1))
        for error, attributes, row in self.all_last():
            for action in ONE:
                self.refused_both(error, attributes, action, form=Form(row))
            for action in TWO:
                self.refused_both(error, attributes, action, form=Form(row), other=good)
                self.refused_both(error, attributes, action, form=good, other=Form(row))

    def all_last(self):
        for row in NOT_POSITIVE:
            yield NotPositive, {}, row
        for row, given in BEYOND:
            yield TooGreat, {"given": given}, row
        for row in FIVE:
            yield TooGreat, {"given": 5}, row

    def test_all_of_the_first_form_ahead_of_the_other(self):
        rows = list(self.all_last())
        for error, attributes, row in rows:
            for _, _, other in rows:
                for action in TWO:
                    self.refused(error, attributes, action, Form(row), Form(other))

    def test_bounds_are_let(self):
        form = Form(reference.diagonal((1000, 1000, 1000, 1000)))
        self.assertEqual(least_form(form), form)
        self.assertTrue(is_alike(form, form))
        self.assertEqual(str(least_form(Form((1000, -1000, 1000)))), "1000 -1000 1000")
