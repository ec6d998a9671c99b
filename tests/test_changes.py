"""The forms that are made of others: changed, times, joined ([4], [8])."""

from formworld.errors import InvalidChange, InvalidNumber, NotAForm, TooGreat
from formworld.forms import Form
from tests import reference
from tests.cases import Case, NO_INTEGERS, Stranger

TOP = 10 ** 12
BIG = 10 ** 75
SIZES = ((3, 2), (6, 3), (10, 4), (15, 5))


def unit(n):
    return tuple(tuple(int(i == j) for j in range(n)) for i in range(n))


def with_row(rows, index, row):
    return rows[:index] + (row,) + rows[index + 1:]


class ChangedTest(Case):

    def test_examples(self):
        wide, tilted = Form((2, 2, 3)), Form((2, 6, 7))
        self.assertTrue(wide.changed(((1, 1), (0, 1))) == tilted)
        self.assertTrue(wide.changed(change=((1, 1), (0, 1))) == tilted)
        self.assertEqual(str(wide.changed(((0, 1), (1, 0)))), "3 2 2")
        self.assertEqual(str(wide.changed(((1, 0), (0, -1)))), "2 -2 3")
        self.refused_both(InvalidChange, {"index": None}, wide.changed, change=((2, 0), (0, 1)))

    def test_otherwise(self):
        source = reference.source(9)
        for size, n in SIZES:
            for span in (1, 5, 1000):
                for proper in (True, False):
                    for _ in range(6):
                        row = tuple(source.randint(-span, span) for _ in range(size))
                        forth, back = reference.some_change(source, n, 5, proper)
                        self.assertEqual(reference.determinant(forth), 1 if proper else -1)
                        other = Form(row).changed(forth)
                        self.assertEqual(other.coefficients, reference.changed(row, forth))
                        self.assertEqual(other.changed(back).coefficients, row)
                        vector = tuple(source.randint(-99, 99) for _ in range(n))
                        self.assertEqual(other.value(vector), Form(row).value(reference.image(forth, vector)))

    def test_one_behind_another(self):
        source = reference.source(10)
        for size, n in SIZES:
            for first in (True, False):
                for second in (True, False):
                    form = Form(tuple(source.randint(-9, 9) for _ in range(size)))
                    one, _ = reference.some_change(source, n, 4, first)
                    two, _ = reference.some_change(source, n, 4, second)
                    self.assertEqual(form.changed(one).changed(two), form.changed(reference.times(one, two)))

    def test_great_numbers(self):
        # the value of (0, 0, 1) does not hang on the first unknown
        for k in (BIG, -BIG, BIG - 1):
            self.assertEqual(str(Form((0, 0, 1)).changed(((1, k), (0, 1)))), "0 0 1")
            self.assertEqual(str(Form((0, 0, 0)).changed(((1, k), (0, -1)))), "0 0 0")
            self.refused(TooGreat, {"given": 2 * k}, Form((1, 0, 0)).changed, ((1, k), (0, 1)))
        self.assertEqual(str(Form((0, 0, 0)).changed(((BIG, BIG - 1), (1, 1)))), "0 0 0")
        self.assertEqual(Form((1, 0, 0)).changed(((0, 1), (1, BIG))).coefficients, (0, 0, 1))
        great = unit(5)[:4] + ((BIG, -BIG, BIG, -BIG, 1),)
        self.assertEqual(Form((1,) + (0,) * 14).changed(great).coefficients, (1,) + (0,) * 14)
        for n, size in ((3, 6), (4, 10), (5, 15)):
            rows = with_row(unit(n), 0, (1,) + (BIG,) * (n - 1))
            self.assertEqual(Form((0,) * size).changed(rows), Form((0,) * size))

    def test_the_numbers_of_a_change(self):
        for size, n in SIZES:
            form = Form((0,) * size)
            for index in range(n):
                for place in range(n):
                    if place == index:
                        continue
                    row = [int(k == index) for k in range(n)]
                    for edge in (BIG, -BIG):
                        row[place] = edge
                        self.assertEqual(form.changed(with_row(unit(n), index, tuple(row))), form)
                    for beyond in (BIG + 1, -BIG - 1):
                        row[place] = beyond
                        self.refused_both(InvalidChange, {"index": index}, form.changed,
                                          change=with_row(unit(n), index, tuple(row)))

    def test_wrong_rows(self):
        for size, n in SIZES:
            form = Form((1,) * size)
            rows = unit(n)
            for given in (None, True, 0, "x", b"x", [], {}, {1}, form, Stranger(), list(rows), (), rows[:-1],
                          rows + (rows[0],), (None,) * (n + 1), range(n)):
                self.refused_both(InvalidChange, {"index": None}, form.changed, change=given)
            for index in range(n):
                good = rows[index]
                bad_rows = [None, True, 1, "x", b"x", list(good), [], {}, Stranger(), (), good[:-1], good + (0,)]
                for wrong in NO_INTEGERS + (BIG + 1, -BIG - 1, (1, 0)):
                    bad_rows.extend(good[:k] + (wrong,) + good[k + 1:] for k in range(n))
                for bad in bad_rows:
                    self.refused_both(InvalidChange, {"index": index}, form.changed, change=with_row(rows, index, bad))
                    several = rows[:index] + (bad,) + (None,) * (n - index - 1)
                    self.refused(InvalidChange, {"index": index}, form.changed, several)

    def test_wrong_determinants(self):
        for size, n in SIZES:
            form = Form((1,) * size)
            for number in (0, 2, -2, 3, 10 ** 15, BIG):
                rows = with_row(unit(n), n - 1, (0,) * (n - 1) + (number,))
                self.refused_both(InvalidChange, {"index": None}, form.changed, change=rows)
            self.refused(InvalidChange, {"index": None}, form.changed, ((1,) * n,) * n)
            self.refused(InvalidChange, {"index": None}, form.changed, ((0,) * n,) * n)
            self.refused(InvalidChange, {"index": None}, form.changed, ((BIG,) * n,) * n)

    def test_rows_ahead_of_the_determinant(self):
        form = Form((1, 0, 1))
        self.refused(InvalidChange, {"index": 1}, form.changed, ((2, 0), (0, None)))
        self.refused(InvalidChange, {"index": 0}, form.changed, ((2, BIG + 1), (0, 1)))

    def test_too_great(self):
        # x x + b x y + c y y at (x + y, y): 1, b + 2, b + c + 1
        step = ((1, 1), (0, 1))
        self.assertEqual(Form((1, TOP - 2, 1)).changed(step).coefficients, (1, TOP, TOP))
        self.assertEqual(Form((-1, 2 - TOP, -1)).changed(step).coefficients, (-1, -TOP, -TOP))
        self.refused_both(TooGreat, {"given": TOP + 1}, Form((1, TOP - 1, -1)).changed, change=step)
        self.refused_both(TooGreat, {"given": -TOP - 1}, Form((-1, 1 - TOP, 1)).changed, change=step)
        self.refused(TooGreat, {"given": TOP + 1}, Form((1, TOP - 2, 2)).changed, step)
        self.refused(TooGreat, {"given": 2 * TOP}, Form((TOP, 0, TOP)).changed, step)
        self.refused(TooGreat, {"given": 2 * TOP}, Form((TOP, 0, TOP)).changed, ((1, 0), (1, 1)))
        self.refused(TooGreat, {"given": BIG ** 2 + 1}, Form((1, 0, 1)).changed, ((BIG, 1 - BIG), (-1, 1)))
        self.refused(TooGreat, {"given": 4 * TOP}, Form((TOP, 0, 0, TOP, 0, TOP)).changed,
                     ((1, 2, 0), (0, 1, 0), (0, 0, 1)))

    def test_the_change_ahead_of_too_great(self):
        self.refused(InvalidChange, {"index": None}, Form((TOP, 0, TOP)).changed, ((2, 0), (0, 2)))
        self.refused(InvalidChange, {"index": 1}, Form((TOP, 0, TOP)).changed, ((5, 0), (0, "5")))

    def test_nothing_is_changed(self):
        form = Form((1, 2, 3))
        change = ((1, 1), (0, 1))
        form.changed(change)
        form.times(3)
        form.joined(form)
        self.assertEqual(form.coefficients, (1, 2, 3))
        self.assertEqual(change, ((1, 1), (0, 1)))


class TimesTest(Case):

    def test_examples(self):
        self.assertEqual(str(Form((2, 2, 3)).times(-3)), "-6 -6 -9")
        self.assertEqual(str(Form((2, 2, 3)).times(many=1)), "2 2 3")

    def test_numbers(self):
        for row in reference.POSITIVE:
            for many in (1, -1, 2, 7, -999, 1000, -1000):
                self.assertEqual(Form(row).times(many).coefficients, tuple(many * c for c in row))

    def test_wrong_numbers(self):
        form = Form((1, 0, 1))
        for many in NO_INTEGERS + (0, 1001, -1001, 10 ** 79, form):
            self.refused_both(InvalidNumber, {"given": many}, form.times, many=many)

    def test_too_great(self):
        self.assertEqual(str(Form((10 ** 9, 0, -10 ** 9)).times(1000)), f"{TOP} 0 -{TOP}")
        self.assertEqual(str(Form((10 ** 9, 0, -10 ** 9)).times(-1000)), f"-{TOP} 0 {TOP}")
        one_beyond = (TOP + 1) // 73
        self.assertEqual(73 * one_beyond, TOP + 1)
        self.refused_both(TooGreat, {"given": TOP + 1}, Form((1, one_beyond, 1)).times, many=73)
        self.refused_both(TooGreat, {"given": -TOP - 1}, Form((1, one_beyond, 1)).times, many=-73)
        self.refused(TooGreat, {"given": TOP + 1}, Form((1, one_beyond, TOP)).times, 73)
        self.refused(TooGreat, {"given": 1000 * TOP}, Form((TOP, 0, -TOP)).times, 1000)
        self.refused(TooGreat, {"given": -2 * TOP}, Form((0,) * 14 + (TOP,)).times, -2)

    def test_the_number_ahead_of_too_great(self):
        self.refused(InvalidNumber, {"given": 1001}, Form((TOP, 0, TOP)).times, 1001)


class JoinedTest(Case):

    def test_examples(self):
        wide, circle = Form((2, 2, 3)), Form((1, 0, 1))
        self.assertEqual(str(wide.joined(circle)), "2 2 0 0 3 0 0 1 0 1")
        self.assertEqual(str(circle.joined(other=wide)), "1 0 0 0 1 0 0 2 2 3")
        self.assertEqual(str(wide.joined(Form((4, 5, 6, 7, 8, 9)))), "2 2 0 0 0 3 0 0 0 4 5 6 7 8 9")
        self.assertEqual(str(Form((4, 5, 6, 7, 8, 9)).joined(wide)), "4 5 6 0 0 7 8 0 0 9 0 0 2 2 3")
        self.assertEqual(Form((TOP, -TOP, TOP)).joined(Form((-TOP, TOP, 0))).coefficients,
                         (TOP, -TOP, 0, 0, TOP, 0, 0, -TOP, TOP, 0))

    def test_values_add_up(self):
        source = reference.source(11)
        for left, right in ((3, 3), (3, 6), (6, 3)):
            for _ in range(20):
                form = Form(tuple(source.randint(-50, 50) for _ in range(left)))
                other = Form(tuple(source.randint(-50, 50) for _ in range(right)))
                both = form.joined(other)
                vector = tuple(source.randint(-50, 50) for _ in range(both.unknowns))
                self.assertEqual(both.value(vector), form.value(vector[:form.unknowns])
                                 + other.value(vector[form.unknowns:]))
                self.assertEqual(both.measure, form.measure * other.measure)

    def test_too_many_unknowns(self):
        for left, first in SIZES:
            for right, second in SIZES:
                if first + second > 5:
                    self.refused_both(TooGreat, {"given": first + second}, Form((1,) * left).joined,
                                      other=Form((1,) * right))
                else:
                    self.assertEqual(Form((1,) * left).joined(Form((1,) * right)).unknowns, first + second)

    def test_no_form(self):
        for size, _ in SIZES:
            for given in NO_INTEGERS + (1, "1 0 1", (1, 0, 1), Form):
                self.refused_both(NotAForm, {"given": given}, Form((1,) * size).joined, other=given)
