"""The checker: claims about forms, each with what shows that it is true.

Each judge takes what stands behind the word of the claim, of any kind, and the certificate.
"""

from formworld.alike import is_alike
from formworld.checks import is_change, is_discriminant, is_integer, is_other_than_nought, is_vector, is_within
from formworld.forms import Form, read_coefficients
from formworld.giving import gives, telling_numbers
from formworld.limits import MOST_NUMBER
from formworld.noughts import gives_nought_at
from formworld.places import is_alike_at
from formworld.requirements import are_of_group, is_binary, is_place, is_placed, is_positive_small
from formworld.requirements import is_primitive_binary, is_small_of_few
from formworld.residues import is_met_at
from formworld.solving import is_solved
from formworld.tables import changed_coefficients, determinant, dot
from formworld.units import least_unit

# Two polynomials of the degree 2 in x and y, and in z and t, are the same if they are at these pairs of both.
POINTS = ((1, 0), (0, 1), (1, 1))


def accepts(claim, certificate):
    """Whether this is a claim for the checker, and the certificate one for it."""
    if not isinstance(claim, tuple) or not claim or not isinstance(claim[0], str) or claim[0] not in JUDGES:
        return False
    if len(claim) != SIZES[claim[0]]:
        return False
    judge = JUDGES[claim[0]]
    return judge(claim[1:], certificate)


def read_forms(texts):
    """The forms with these texts, None if one is no text of a form."""
    rows = [read_coefficients(text) for text in texts]
    return None if None in rows else [Form(row) for row in rows]


def is_empty(certificate):
    return isinstance(certificate, tuple) and len(certificate) == 0


def is_told_number(value):
    return is_within(value, 1, MOST_NUMBER)


def is_writing(form, number, vector):
    return is_vector(vector, form.unknowns) and form.value(vector) == number


def judge_gives(told, certificate):
    forms = read_forms(told[:1])
    if forms is None or not is_told_number(told[1]) or not is_positive_small(forms[0]):
        return False
    return is_writing(forms[0], told[1], certificate)


def judge_misses(told, certificate):
    forms = read_forms(told[:1])
    if forms is None or not is_told_number(told[1]) or not is_positive_small(forms[0]):
        return False
    return is_empty(certificate) and not gives(forms[0], told[1])


def judge_all(told, certificate):
    forms = read_forms(told)
    if forms is None or not is_positive_small(forms[0]) or not isinstance(certificate, tuple):
        return False
    numbers = telling_numbers(forms[0])
    if len(certificate) != len(numbers):
        return False
    return all([is_writing(forms[0], number, vector) for number, vector in zip(numbers, certificate)])


def judge_not_all(told, certificate):
    forms = read_forms(told)
    if forms is None or not is_told_number(certificate) or not is_positive_small(forms[0]):
        return False
    return not gives(forms[0], certificate)


def judge_alike(told, certificate):
    forms = read_forms(told)
    if forms is None or not is_change(certificate, forms[0].unknowns):
        return False
    return changed_coefficients(forms[0].table, certificate) == forms[1].coefficients


def judge_properly_alike(told, certificate):
    return judge_alike(told, certificate) and determinant(certificate) == 1


def judge_unlike(told, certificate):
    forms = read_forms(told)
    if forms is None or not is_empty(certificate) or not all([is_small_of_few(form) for form in forms]):
        return False
    return not is_alike(forms[0], forms[1])


def judge_part(told, certificate):
    forms = read_forms(told[:2])
    if forms is None or not is_empty(certificate) or not is_place(told[2]) or not all([is_placed(f) for f in forms]):
        return False
    return not is_alike_at(forms[0], forms[1], told[2])


def judge_nought(told, certificate):
    forms = read_forms(told)
    if forms is None or not is_writing(forms[0], 0, certificate):
        return False
    return any([number != 0 for number in certificate])


def judge_no_nought(told, certificate):
    forms = read_forms(told[:1])
    if forms is None or not is_empty(certificate) or not is_place(told[1]) or not is_placed(forms[0]):
        return False
    return not gives_nought_at(forms[0], told[1])


def judge_product(told, certificate):
    """The first coefficients tell which one of two opposite classes it is (Gauss)."""
    forms = read_forms(told)
    if forms is None or not are_of_group(forms) or not is_pair_of_tables(certificate):
        return False
    above, below = certificate
    if above[0] * below[1] - above[1] * below[0] != forms[0].coefficients[0]:
        return False
    if above[0] * below[2] - above[2] * below[0] != forms[1].coefficients[0]:
        return False
    return all([multiplies(forms, certificate, point, other) for point in POINTS for other in POINTS])


def is_pair_of_tables(value):
    return isinstance(value, tuple) and len(value) == 2 and all([is_vector(row, 4) for row in value])


def multiplies(forms, tables, point, other):
    """Whether the product of two values is the value of the third form where the tables say."""
    products = [left * right for left in point for right in other]
    vector = tuple([dot(table, products) for table in tables])
    return value_at(forms[0], point) * value_at(forms[1], other) == value_at(forms[2], vector)


def value_at(form, vector):
    """The value of a form of two unknowns; the numbers may be greater than those of a vector that is passed."""
    first, both, last = form.coefficients
    return (first * vector[0] + both * vector[1]) * vector[0] + last * vector[1] * vector[1]


def judge_unit(told, certificate):
    discriminant, first, second = told
    if not is_empty(certificate) or not is_discriminant(discriminant) or discriminant < 0:
        return False
    return is_integer(first) and is_integer(second) and (first, second) == least_unit(discriminant)


def judge_solved(told, certificate):
    forms = read_forms(told[:1])
    if forms is None or not is_other_than_nought(told[1], MOST_NUMBER) or not is_binary(forms[0]):
        return False
    return is_writing(forms[0], told[1], certificate)


def judge_unsolved(told, certificate):
    forms = read_forms(told[:1])
    if forms is None or not is_empty(certificate) or not is_other_than_nought(told[1], MOST_NUMBER):
        return False
    return forms[0].kind == "mixed" and is_primitive_binary(forms[0]) and not is_solved(forms[0], told[1])


def judge_barred(told, certificate):
    forms = read_forms(told[:1])
    if forms is None or not is_empty(certificate) or not is_within(told[1], -MOST_NUMBER, MOST_NUMBER):
        return False
    return is_place(told[2]) and is_placed(forms[0]) and not is_met_at(forms[0], told[1], told[2])


# How many elements a claim with this word has, and its judge.
SIZES = {
    "gives": 3, "misses": 3, "all": 2, "not all": 2, "alike": 3, "properly alike": 3, "unlike": 3, "part": 4,
    "nought": 2, "no nought": 3, "product": 4, "unit": 4, "solved": 3, "unsolved": 3, "barred": 4,
}
JUDGES = {
    "gives": judge_gives, "misses": judge_misses, "all": judge_all, "not all": judge_not_all, "alike": judge_alike,
    "properly alike": judge_properly_alike, "unlike": judge_unlike, "part": judge_part, "nought": judge_nought,
    "no nought": judge_no_nought, "product": judge_product, "unit": judge_unit, "solved": judge_solved,
    "unsolved": judge_unsolved, "barred": judge_barred,
}
