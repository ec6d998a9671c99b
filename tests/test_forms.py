"""Form, Form.read, and what a form tells of itself ([3] to [8])."""

import math
import unittest

from formworld.errors import InvalidCoefficients, InvalidText, InvalidVector
from formworld.forms import Form
from tests import reference
from tests.cases import Case, NO_INTEGERS, Stranger

TOP = 10 ** 12
BIG = 10 ** 75
SIZES = (3, 6, 10, 15)

# Coefficients, measure, signature and kind, by hand.
BY_HAND = (
    ((0, 0, 0), 0, (0, 0), "flat"),
    ((1, 2, 1), 0, (1, 0), "flat"),
    ((-1, 2, -1), 0, (0, 1), "flat"),
    ((0, 1, 0), -1, (1, 1), "mixed"),
    ((0, 0, 5), 0, (1, 0), "flat"),
    ((2, 2, 3), 20, (2, 0), "positive"),
    ((-2, 2, -3), 20, (0, 2), "negative"),
    ((1, 0, -2), -8, (1, 1), "mixed"),
    ((1, 3, 1), -5, (1, 1), "mixed"),
    ((TOP, 0, TOP), 4 * TOP ** 2, (2, 0), "positive"),
    ((TOP, TOP, TOP), 3 * TOP ** 2, (2, 0), "positive"),
    ((TOP, -TOP, 0), -TOP ** 2, (1, 1), "mixed"),
    ((TOP - 1, 2 * 10 ** 6, 1), 4 * (TOP - 1) - 4 * TOP, (1, 1), "mixed"),
    ((0, 0, 0, 0, 0, 0), 0, (0, 0), "flat"),
    ((1, 0, 0, 1, 0, 1), 8, (3, 0), "positive"),
    ((1, 0, 0, 1, 0, -2), -16, (2, 1), "mixed"),
    ((-1, 0, 0, -1, 0, -1), -8, (0, 3), "negative"),
    ((0, 1, 0, 0, 0, 1), -2, (2, 1), "mixed"),
    ((0, 1, 1, 0, 1, 0), 2, (1, 2), "mixed"),
    ((0, 1, 0, 0, 0, 0), 0, (1, 1), "flat"),
    ((1, 2, 2, 1, 2, 1), 0, (1, 0), "flat"),
    ((1, 1, 1, 1, 1, 1), 4, (3, 0), "positive"),
    ((0,) * 10, 0, (0, 0), "flat"),
    ((1, 0, 0, 0, 1, 0, 0, 1, 0, 1), 16, (4, 0), "positive"),
    ((0, 1, 0, 0, 0, 0, 0, 0, 1, 0), 1, (2, 2), "mixed"),
    ((1, -1, 0, 0, 1, -1, -1, 1, 0, 1), 4, (4, 0), "positive"),
    ((0, 0, 0, 1, 0, 1, 0, 0, 0, 0), 1, (2, 2), "mixed"),
    ((0,) * 15, 0, (0, 0), "flat"),
    ((1, 0, 0, 0, 0, 1, 0, 0, 0, 1, 0, 0, 1, 0, 1), 32, (5, 0), "positive"),
    ((-1, 0, 0, 0, 0, -1, 0, 0, 0, -1, 0, 0, -1, 0, -1), -32, (0, 5), "negative"),
    ((0, 1, 0, 0, 0, 0, 0, 0, 0, 0, 1, 0, 0, 0, -3), -6, (2, 3), "mixed"),
    ((1, 1, 1, 1, 1, 1, 1, 1, 1, 1, 1, 1, 1, 1, 1), 6, (5, 0), "positive"),
    ((0, 0, 0, 0, 1, 0, 0, 1, 0, 0, 0, 0, 0, 0, 0), 0, (2, 2), "flat"),
)


def many_coefficients():
    """Forms of all kinds and sizes, made by a fixed rule."""
    source = reference.source(6)
    rows = [row for row, _, _, _ in BY_HAND] + list(reference.POSITIVE)
    for size in SIZES:
        for span in (1, 2, 30, TOP):
            rows.extend(tuple(source.randint(-span, span) for _ in range(size)) for _ in range(6))
            rows.extend(tuple(source.choice((0, 0, 0, span, -1)) for _ in range(size)) for _ in range(4))
    # sums of fewer squares than unknowns are flat
    for n in (2, 3, 4, 5):
        for squares in range(n):
            lines = [[source.randint(-9, 9) for _ in range(n)] for _ in range(squares)]
            signs = [source.choice((1, -1)) for _ in range(squares)]
            rows.append(tuple(
                sum(s * line[i] * line[j] * (1 if i == j else 2) for s, line in zip(signs, lines))
                for i in range(n) for j in range(i, n)))
    return rows


class ExamplesTest(unittest.TestCase):

    def test_examples(self):
        wide, main, circle = Form((2, 2, 3)), Form((1, 0, 5)), Form((1, 0, 1))
        ball, four = Form((1, 0, 0, 1, 0, 1)), Form((1, 0, 0, 0, 1, 0, 0, 1, 0, 1))
        root, tilted, eisen = Form((1, 0, -2)), Form.read("2 6 7"), Form((1, 1, 1))
        self.assertEqual([wide.table, wide.measure, wide.signature, wide.kind, wide.content, wide.is_even_between,
                          wide.value((1, -1)), wide.product((1, 0), (0, 1)),
                          wide.changed(((1, 1), (0, 1))) == tilted],
                         [((4, 2), (2, 6)), 20, (2, 0), "positive", 1, True, 3, 2, True])
        self.assertEqual([str(wide.times(-3)), str(wide.joined(circle)), root.signature, root.kind,
                          Form((1, 2, 1)).kind, Form((0, 0, 0)).content, eisen.is_even_between, repr(ball),
                          ball.measure],
                         ["-6 -6 -9", "2 2 0 0 3 0 0 1 0 1", (1, 1), "mixed", "flat", 0, False,
                          "Form of 3 unknowns", 8])
        self.assertEqual([main.unknowns, four.unknowns], [2, 4])


class MakingTest(Case):

    def test_right_coefficients(self):
        for row in many_coefficients():
            for form in (Form(row), Form(coefficients=row), Form.read(" ".join(map(str, row)))):
                self.assertIs(type(form), Form)
                self.assertEqual(form.coefficients, row)
                self.assertIs(type(form.coefficients), tuple)

    def test_as_they_were_passed(self):
        row = (1, 2, 3)
        self.assertIs(Form(row).coefficients, row)

    def test_bounds(self):
        for size in SIZES:
            for index in range(size):
                for edge in (TOP, -TOP):
                    row = tuple(edge if k == index else 1 for k in range(size))
                    self.assertEqual(Form(row).coefficients, row)
                    text = " ".join(map(str, row))
                    self.assertEqual(Form.read(text).coefficients, row)
                for beyond in (TOP + 1, -TOP - 1, 10 ** 79, -10 ** 79):
                    row = tuple(beyond if k == index else 1 for k in range(size))
                    self.refused_both(InvalidCoefficients, {"index": index}, Form, coefficients=row)
                    text = " ".join(map(str, row))
                    self.refused_both(InvalidText, {"given": text}, Form.read, text=text)
            edges = (TOP, -TOP) * 8
            self.assertEqual(Form(edges[:size]).coefficients, edges[:size])

    def test_no_tuple(self):
        for given in (None, True, 3, 0, "1 2 3", "", b"123", [1, 2, 3], [], {}, {1: 1, 2: 2, 3: 3}, {1, 2, 3},
                      Form((1, 2, 3)), Stranger(), int, range(3)):
            self.refused_both(InvalidCoefficients, {"index": None}, Form, coefficients=given)

    def test_wrong_number_of_elements(self):
        for size in (0, 1, 2, 4, 5, 7, 8, 9, 11, 12, 13, 14, 16, 21, 30):
            self.refused_both(InvalidCoefficients, {"index": None}, Form, coefficients=(1,) * size)
            self.refused_both(InvalidCoefficients, {"index": None}, Form, coefficients=("x",) * size)

    def test_wrong_elements(self):
        for size in SIZES:
            for wrong in NO_INTEGERS + (Form((1, 0, 1)), (1, 2, 3), [1, 2, 3]):
                for index in range(size):
                    row = tuple(wrong if k == index else 1 for k in range(size))
                    self.refused(InvalidCoefficients, {"index": index}, Form, row)
                for index in range(size - 1):
                    row = (1,) * index + (wrong, TOP + 1) + ("x",) * (size - index - 2)
                    self.refused_both(InvalidCoefficients, {"index": index}, Form, coefficients=row)
                    row = (1,) * index + (TOP + 1, wrong) + (None,) * (size - index - 2)
                    self.refused_both(InvalidCoefficients, {"index": index}, Form, coefficients=row)


class TextTest(Case):

    def test_examples(self):
        for text, row in (("2 2 3", (2, 2, 3)), ("0 0 0", (0, 0, 0)), ("-1 0 10", (-1, 0, 10)),
                          ("1000000000000 -1000000000000 0", (TOP, -TOP, 0)),
                          ("1 2 3 4 5 6", (1, 2, 3, 4, 5, 6)), ("1 2 3 4 5 6 7 8 9 10", tuple(range(1, 11))),
                          ("-1 -2 -3 -4 -5 -6 -7 -8 -9 -10 -11 -12 -13 -14 -15", tuple(range(-1, -16, -1)))):
            self.assertEqual(Form.read(text).coefficients, row)
            self.assertEqual(Form.read(text=text).coefficients, row)
            self.assertEqual(str(Form(row)), text)

    def test_wrong_texts(self):
        for text in ("", " ", "1", "1 2", "1 2 3 4", "1 2 3 4 5", "1 2 3 4 5 6 7", "1 " * 15 + "1", "1 " * 14,
                     " 1 2 3", "1 2 3 ", "1  2 3", "1 2  3", "1\t2\t3", "1\n2\n3", "1 2 3\n", "\n1 2 3", "1 2 3\n4",
                     "1,2,3", "1, 2, 3", "(1, 2, 3)", "01 2 3", "1 00 3", "1 2 -03", "1 2 03", "000 0 0",
                     "+1 2 3", "1 +2 3", "1 2 +0", "-0 2 3", "1 -0 3", "1 2 -0", "- 1 2", "1 2 -", "--1 2 3",
                     "1- 2 3", "1 2 3-", "1 2 x", "a b c", "1 2 3.", "1.0 2 3", "1e3 2 3", "0x1 2 3", "1_0 2 3",
                     "1 2 1000000000001", "-1000000000001 2 3", "1 2 " + "9" * 300, "1 2 " + "0" * 300,
                     "1 2 " + "9" * 3900, "1 2 None", "1 2 True", "x" * 4000, "1 2 3 4 5 -0", "1 2 3 4 5 06"):
            self.refused_both(InvalidText, {"given": text}, Form.read, text=text)

    def test_no_string(self):
        for given in (None, True, False, 0, 5, (1, 2, 3), ("1 2 3",), ["1 2 3"], [], {}, {"1 2 3": 1}, {1},
                      b"1 2 3", Form((1, 2, 3)), Stranger(), str):
            self.refused_both(InvalidText, {"given": given}, Form.read, text=given)

    def test_text_and_back(self):
        for row in many_coefficients():
            form = Form(row)
            text = " ".join(map(str, row))
            self.assertEqual(str(form), text)
            self.assertEqual(Form.read(str(form)), form)
            self.assertEqual(repr(form), f"Form of {reference.unknowns(row)} unknowns")

    def test_texts_of_edges(self):
        """Below 0, 0, and of the greatest size, from two to five unknowns."""
        self.assertEqual(str(Form((2, 2, 3))), "2 2 3")
        self.assertEqual(str(Form.read("2 6 7")), "2 6 7")
        self.assertEqual(str(Form((-1, 0, -TOP))), "-1 0 -1000000000000")
        self.assertEqual(str(Form((TOP, -TOP, 0, 0, -7, 12))), "1000000000000 -1000000000000 0 0 -7 12")
        for size in SIZES:
            rows = [(edge,) * size for edge in (0, -1, -12, TOP, -TOP)]
            rows += [tuple(mixed[(k + turn) % len(mixed)] for k in range(size))
                     for mixed in ((0, -1, TOP, -TOP), (TOP, 0, -305)) for turn in range(len(mixed))]
            for row in rows:
                text = str(Form(row))
                self.assertIs(type(text), str)
                self.assertEqual(text, " ".join(map(str, row)))
                self.assertEqual(Form.read(text), Form(row))
                self.assertEqual(Form.read(text).coefficients, row)

    def test_repr_for_all_numbers(self):
        shown = [repr(Form((1,) * size)) for size in SIZES]
        self.assertEqual(shown, ["Form of 2 unknowns", "Form of 3 unknowns", "Form of 4 unknowns",
                                 "Form of 5 unknowns"])


class EqualTest(unittest.TestCase):

    def test_equal(self):
        rows = list(dict.fromkeys(many_coefficients()))
        for row in rows:
            self.assertTrue(Form(row) == Form(tuple(row)))
            self.assertFalse(Form(row) != Form(tuple(row)))
            form = Form(row)
            self.assertTrue(form == form)
            self.assertFalse(form != form)
        for left in rows[:60]:
            for right in rows[:60]:
                self.assertIs(Form(left) == Form(right), left == right)
                self.assertIs(Form(left) != Form(right), left != right)

    def test_other_classes(self):
        form = Form((1, 2, 3))
        for other in ((1, 2, 3), [1, 2, 3], "1 2 3", None, True, 0, 1, {}, b"1 2 3", Stranger(), Form, "Form", {1}):
            self.assertIs(form == other, False)
            self.assertIs(other == form, False)
            self.assertIs(form != other, True)
            self.assertIs(other != form, True)

    def test_within_tuples(self):
        self.assertEqual((Form((1, 0, 1)), 2), (Form((1, 0, 1)), 2))
        self.assertIn(Form((1, 0, 1)), [Form((0, 0, 0)), Form((1, 0, 1))])
        self.assertNotIn(Form((1, 0, 1)), [Form((0, 0, 0)), (1, 0, 1)])

    def test_true(self):
        for size in SIZES:
            self.assertTrue(Form((0,) * size))
            self.assertTrue(Form((1,) * size))


class PropertiesTest(unittest.TestCase):

    def test_by_hand(self):
        for row, measure, signature, kind in BY_HAND:
            form = Form(row)
            self.assertEqual((form.measure, form.signature, form.kind), (measure, signature, kind), row)

    def test_otherwise(self):
        for row in many_coefficients():
            form = Form(row)
            n = reference.unknowns(row)
            rows = reference.table(row)
            self.assertEqual(form.unknowns, n)
            self.assertEqual(form.table, rows)
            self.assertEqual(form.measure, reference.determinant(rows))
            plus, minus = reference.signature(row)
            self.assertEqual(form.signature, (plus, minus))
            kind = "flat" if plus + minus < n else "positive" if plus == n else "negative" if minus == n else "mixed"
            self.assertEqual(form.kind, kind)
            self.assertEqual(form.kind == "flat", form.measure == 0)
            self.assertEqual(form.content, math.gcd(*row))
            between = [rows[i][j] for i in range(n) for j in range(i)]
            self.assertIs(form.is_even_between, all(c % 2 == 0 for c in between))

    def test_kinds_of_values(self):
        form = Form((2, 2, 3))
        self.assertEqual(form.table, ((4, 2), (2, 6)))
        self.assertIs(type(form.table), tuple)
        self.assertTrue(all(type(row) is tuple for row in form.table))
        self.assertIs(type(form.signature), tuple)
        for number in (form.unknowns, form.measure, form.content) + form.signature:
            self.assertIs(type(number), int)

    def test_order_of_coefficients(self):
        self.assertEqual(Form(tuple(range(1, 11))).table,
                         ((2, 2, 3, 4), (2, 10, 6, 7), (3, 6, 16, 9), (4, 7, 9, 20)))
        self.assertEqual(Form(tuple(range(1, 16))).table, (
            (2, 2, 3, 4, 5), (2, 12, 7, 8, 9), (3, 7, 20, 11, 12), (4, 8, 11, 26, 14), (5, 9, 12, 14, 30)))

    def test_content(self):
        for row, content in (((0, 0, 0), 0), ((0, 0, -7), 7), ((4, -6, 10), 2), ((TOP, -TOP, TOP), TOP),
                             ((3, 5, 0, 0, 0, 0), 1), ((-6,) * 15, 6)):
            self.assertEqual(Form(row).content, content)

    def test_even_between(self):
        for row, even in (((1, 2, 1), True), ((1, 1, 1), False), ((1, -1, 1), False), ((3, 0, 5), True),
                          ((1, 0, 0, 1, 1, 1), False), ((1, 2, -2, 1, 4, 1), True), ((0,) * 15, True),
                          ((0,) * 13 + (1, 0), False), ((0,) * 14 + (1,), True), ((0, 0, 0, 0, 1, 0, 0, 1, 1, 1), False)):
            self.assertIs(Form(row).is_even_between, even)

    def test_a_changed_form_has_the_same(self):
        source = reference.source(7)
        for row in many_coefficients():
            if max(map(abs, row)) > 100:
                continue
            form = Form(row)
            for proper in (True, False):
                forth, _ = reference.some_change(source, form.unknowns, 4, proper)
                other = form.changed(forth)
                for name in ("unknowns", "measure", "signature", "kind", "content"):
                    self.assertEqual(getattr(other, name), getattr(form, name), (row, forth, name))


class ValuesTest(Case):

    def test_examples(self):
        wide = Form((2, 2, 3))
        self.assertEqual([wide.value((1, -1)), wide.product((1, 0), (0, 1))], [3, 2])
        self.assertEqual(wide.value(vector=(1, -1)), 3)
        self.assertEqual(wide.product(vector=(1, 0), other=(0, 1)), 2)
        self.assertEqual(wide.product(other=(0, 1), vector=(1, 0)), 2)

    def test_otherwise(self):
        source = reference.source(8)
        for row in many_coefficients():
            form = Form(row)
            n = form.unknowns
            for span in (0, 1, 5, 10 ** 6, BIG):
                vector = tuple(source.randint(-span, span) for _ in range(n))
                other = tuple(source.randint(-span, span) for _ in range(n))
                total = tuple(a + b for a, b in zip(vector, other))
                self.assertEqual(form.value(vector), reference.value(row, vector))
                self.assertEqual(form.product(vector, other), reference.value(row, total)
                                 - reference.value(row, vector) - reference.value(row, other))
                self.assertEqual(form.product(vector, other), form.product(other, vector))
                self.assertEqual(form.product(vector, vector), 2 * form.value(vector))

    def test_bounds(self):
        for size, n in zip(SIZES, (2, 3, 4, 5)):
            form = Form((1,) * size)
            for index in range(n):
                for edge in (BIG, -BIG):
                    vector = tuple(edge if k == index else 0 for k in range(n))
                    self.assertEqual(form.value(vector), BIG ** 2)
                    self.assertEqual(form.product(vector, vector), 2 * BIG ** 2)
                for beyond in (BIG + 1, -BIG - 1):
                    vector = tuple(beyond if k == index else 0 for k in range(n))
                    self.refused_both(InvalidVector, {"index": index}, form.value, vector=vector)
            self.assertEqual(form.value((BIG,) * n), size * BIG ** 2)

    def test_refusals(self):
        for size, n in zip(SIZES, (2, 3, 4, 5)):
            form = Form((1,) * size)
            good = (1,) * n
            wrong = [(given, None) for given in (None, True, 0, "12", b"12", [1] * n, {}, {1}, form, Stranger(), (),
                                                 (1,) * (n - 1), (1,) * (n + 1), ("x",) * (n + 1), range(n))]
            for bad in NO_INTEGERS + ((1, 1), BIG + 1, -BIG - 1):
                for index in range(n):
                    wrong.append((tuple(bad if k == index else 1 for k in range(n)), index))
                    wrong.append((tuple(bad if k >= index else 1 for k in range(n)), index))
            for vector, index in wrong:
                self.refused_both(InvalidVector, {"index": index}, form.value, vector=vector)
                self.refused_both(InvalidVector, {"index": index}, form.product, vector=vector, other=good)
                self.refused_both(InvalidVector, {"index": index}, form.product, vector=good, other=vector)

    def test_the_first_vector_comes_first(self):
        form = Form((1, 0, 0, 1, 0, 1))
        self.refused_both(InvalidVector, {"index": 2}, form.product, vector=(0, 0, None), other=(None, 0, 0))
        self.refused_both(InvalidVector, {"index": None}, form.product, vector=(0, 0), other=(None, 0, 0))
        self.refused_both(InvalidVector, {"index": 0}, form.product, vector=(None, 0, 0), other=[])
        self.refused(InvalidVector, {"index": 1}, form.product, other=(None, 0, 0), vector=(0, None, 0))
