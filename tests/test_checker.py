"""Claims for the checker, true and false, with certificates of all kinds ([25])."""

import functools
import itertools
import math
import re

from formworld.checker import accepts
from formworld.composing import composing_tables
from formworld.forms import Form
from tests import reference, two
from tests.cases import Case, NO_INTEGERS, Stranger
from tests.test_giving import LATE, LATE_ONES, MISSING_ONE, NINE, TWENTY_NINE

ENTRY = 10 ** 75
JUNK = NO_INTEGERS + (0, 1, -1, 7, 10 ** 79, -10 ** 79, "1 0 1", "gives", (0, 0), ((1, 0), (0, 1)), [(1, 0), (0, 1)], ((),),
                      (((((((1,),),),),),),), Form((1, 0, 1)), "x" * 4000, ("gives", "1 0 1", 1))


def whole(value, least=None, most=None):
    return type(value) is int and (least is None or least <= value) and (most is None or value <= most)


def row_of(text):
    """The coefficients that are written there, None if it is no text of a form."""
    if type(text) is not str or not re.fullmatch(r"(-?[1-9][0-9]*|0)( (-?[1-9][0-9]*|0))*", text, re.ASCII) or "\n" in text:
        return None
    row = tuple(map(int, text.split(" ")))
    return row if len(row) in (3, 6, 10, 15) and max(map(abs, row)) <= 10 ** 12 else None


def is_vector(value, many):
    return type(value) is tuple and len(value) == many and all(whole(x, -ENTRY, ENTRY) for x in value)


def small(row):
    return max(map(abs, row)) <= 1000 and positive(row)


@functools.cache
def positive(row):
    return reference.signature(row) == (reference.unknowns(row), 0)


@functools.cache
def values(row, most):
    return set(reference.listing(row, most).values())


def placed(row):
    return max(map(abs, row)) <= 100 and len(row) < 15 and reference.determinant(reference.table(row)) != 0


def binary(row):
    return len(row) == 3 and two.is_discriminant(two.discriminant(row)) and (two.discriminant(row) > 0 or row[0] > 0)


def place(value):
    return whole(value, 0, 10 ** 12) and (value == 0 or value < 10 ** 6 and reference.is_prime(value) or value == 999999999989)


def is_writing(row, number, vector):
    return is_vector(vector, reference.unknowns(row)) and reference.value(row, vector) == number


def right(claim, certificate):
    """As [25] says it, by the plain ways of the tests; numbers that are asked for stay small."""
    if type(claim) is not tuple or not claim or type(claim[0]) is not str or claim[0] not in RULES:
        return False
    many, rule = RULES[claim[0]]
    if len(claim) != rule.__code__.co_argcount:
        return False
    rows = [row_of(text) for text in claim[1:1 + many]]
    return None not in rows and bool(rule(*rows, *claim[1 + many:], certificate))


def told_gives(row, number, vector):
    return small(row) and whole(number, 1, 1000) and is_writing(row, number, vector)


def told_misses(row, number, empty):
    return small(row) and whole(number, 1, 1000) and empty_one(empty) and number not in values(row, number)


def empty_one(value):
    return type(value) is tuple and not value


def told_all(row, vectors):
    if not small(row):
        return False
    table = reference.table(row)
    even = all(table[i][j] % 2 == 0 for i, j in itertools.combinations(range(len(table)), 2))
    numbers = NINE if even else TWENTY_NINE
    return type(vectors) is tuple and len(vectors) == len(numbers) and all(map(is_writing, [row] * 29, numbers, vectors))


def told_not_all(row, number):
    return small(row) and whole(number, 1, 1000) and number not in values(row, number)


def told_alike(row, other, change):
    n = reference.unknowns(row)
    if type(change) is not tuple or len(change) != n or not all(is_vector(line, n) for line in change):
        return False
    return abs(reference.determinant(change)) == 1 and reference.changed(row, change) == other


def told_properly(row, other, change):
    return told_alike(row, other, change) and reference.determinant(change) == 1


def told_unlike(row, other, empty):
    if not (small(row) and small(other) and len(row) < 15 and len(other) < 15 and empty_one(empty)):
        return False
    if len(row) != len(other):
        return True
    return reference.least_of_bases(row, max(row)) != reference.least_of_bases(other, max(other))


def told_part(row, other, at, empty):
    return placed(row) and placed(other) and place(at) and empty_one(empty) and not alike_at(row, other, at)


def alike_at(row, other, at):
    if len(row) != len(other):
        return False
    if at == 0:
        return reference.signature(row) == reference.signature(other)
    numbers, others = map(reference.diagonal_by_fractions, (row, other))
    signs = [math.prod(reference.sign_by_rule(a, b, at) for a, b in itertools.combinations(part, 2)) for part in (numbers, others)]
    return reference.is_square_by_rule(math.prod(numbers + others), at) and signs[0] == signs[1]


def told_nought(row, vector):
    return is_writing(row, 0, vector) and any(vector)


def told_no_nought(row, at, empty):
    return placed(row) and place(at) and empty_one(empty) and not reference.nought_by_rule(reference.diagonal_by_fractions(row), at)


def told_product(row, other, third, pair):
    if not all(binary(one) and two.is_primitive(one) for one in (row, other, third)):
        return False
    if len(set(map(two.discriminant, (row, other, third)))) > 1:
        return False
    if type(pair) is not tuple or len(pair) != 2 or not all(is_vector(line, 4) for line in pair):
        return False
    p, q = pair
    if p[0] * q[1] - p[1] * q[0] != row[0] or p[0] * q[2] - p[2] * q[0] != other[0]:
        return False
    for x, y, z, t in itertools.product((-2, -1, 0, 1, 3), repeat=4):
        first, second = (sum(a * b for a, b in zip(line, (x * z, x * t, y * z, y * t))) for line in pair)
        if two.value(row, x, y) * two.value(other, z, t) != two.value(third, first, second):
            return False
    return True


def told_unit(d, first, second, empty):
    if not (whole(d) and two.is_discriminant(d) and d > 0 and whole(first, 1) and whole(second, 1) and empty_one(empty)):
        return False
    u = 1
    while math.isqrt(d * u * u + 4) ** 2 != d * u * u + 4:
        u += 1
    return (first, second) == (math.isqrt(d * u * u + 4), u)


def told_solved(row, number, vector):
    return binary(row) and whole(number, -1000, 1000) and number != 0 and is_writing(row, number, vector)


def told_unsolved(row, number, empty):
    if not (binary(row) and two.discriminant(row) > 0 and two.is_primitive(row) and whole(number, -1000, 1000)):
        return False
    return number != 0 and empty_one(empty) and not is_given(row, number)


@functools.cache
def is_given(row, number):
    """By classes: a number is given properly by the forms (number, b, c) of the discriminant."""
    d = two.discriminant(row)
    for k in range(1, math.isqrt(abs(number)) + 1):
        if number % (k * k) == 0:
            a = number // (k * k)
            for b in range(2 * abs(a)):
                if (b * b - d) % (4 * a) == 0 and two.leader_of((a, b, (b * b - d) // (4 * a))) == two.leader_of(row):
                    return True
    return False


def told_barred(row, number, at, empty):
    if not (placed(row) and whole(number, -1000, 1000) and place(at) and empty_one(empty)):
        return False
    if number == 0:
        return False
    if at == 0:
        return reference.signature(row)[0 if number > 0 else 1] == 0
    return number % modulus_for(number, at) not in rests(row, modulus_for(number, at))


def modulus_for(number, at):
    return at ** (reference.split(number, at)[0] + 1) * (4 if at == 2 else 1)


@functools.cache
def rests(row, modulus):
    if modulus ** reference.unknowns(row) > 10 ** 7:
        raise AssertionError((row, modulus))
    return {reference.value(row, vector) % modulus for vector in itertools.product(range(modulus), repeat=reference.unknowns(row))}


RULES = {
    "gives": (1, told_gives), "misses": (1, told_misses), "all": (1, told_all), "not all": (1, told_not_all),
    "alike": (2, told_alike), "properly alike": (2, told_properly), "unlike": (2, told_unlike), "part": (2, told_part),
    "nought": (1, told_nought), "no nought": (1, told_no_nought), "product": (3, told_product), "unit": (0, told_unit),
    "solved": (1, told_solved), "unsolved": (1, told_unsolved), "barred": (1, told_barred),
}


def squares(*numbers):
    return " ".join(map(str, reference.diagonal(numbers)))


def four_squares(number):
    return next(v for v in itertools.product(range(math.isqrt(number), -1, -1), repeat=4) if sum(x * x for x in v) == number)


FOURS = tuple(four_squares(number) for number in NINE)
# Right claims with right certificates.
RIGHT = (
    (("gives", "2 2 3", 7), (1, 1)), (("gives", "1 0 1", 1000), (-10, 30)), (("gives", "1000 0 1000", 1000), (0, -1)),
    (("gives", "1 1 1", 1), (1, -1)), (("gives", squares(1, 1, 1, 1, 1), 5), (1, 1, 1, -1, 1)),
    (("gives", "1 0 0 1 0 1", 6), (1, 2, -1)),
    (("misses", "2 2 3", 1), ()), (("misses", "1 0 0 1 0 1", 7), ()), (("misses", "1000 0 1000", 999), ()),
    (("misses", squares(2, 2, 2, 2, 3), 1), ()),
    (("all", squares(1, 1, 1, 1)), FOURS), (("not all", "1 0 1"), 6), (("not all", "1 0 0 1 0 1"), 15), (("not all", "2 2 3"), 1),
    (("not all", "1000 0 1000"), 999),
    (("alike", "2 2 3", "2 6 7"), ((1, 1), (0, 1))), (("alike", "2 1 3", "2 -1 3"), ((1, 0), (0, -1))),
    (("alike", "0 0 0", "0 0 0"), ((ENTRY, 1), (-1, 0))), (("alike", "1 0 -2", "1 0 -2"), ((3, 4), (2, 3))),
    (("alike", "1 0 0 1 0 1", "1 0 0 1 0 1"), ((0, 0, 1), (0, -1, 0), (1, 0, 0))),
    (("alike", squares(1, 2, 3, 4, 5), squares(5, 2, 3, 4, 1)),
     ((0, 0, 0, 0, 1), (0, 1, 0, 0, 0), (0, 0, 1, 0, 0), (0, 0, 0, 1, 0), (1, 0, 0, 0, 0))),
    (("properly alike", "2 2 3", "2 6 7"), ((1, 1), (0, 1))), (("properly alike", "1 0 1", "1 0 1"), ((0, -1), (1, 0))),
    (("properly alike", "-1000000000000 0 0", "-1000000000000 0 0"), ((1, 0), (5, 1))),
    (("unlike", "2 2 3", "1 0 5"), ()), (("unlike", "1 0 1", "1 0 0 1 0 1"), ()), (("unlike", "1000 0 1000", "1000 0 999"), ()),
    (("part", "2 2 3", "1 0 5", 5), ()), (("part", "2 2 3", "1 0 5", 2), ()), (("part", "1 0 1", "1 0 -2", 0), ()),
    (("part", "1 0 1", "1 0 0 1 0 1", 7), ()), (("part", "1 0 1", "3 0 3", 3), ()), (("part", "1 0 1", "1 0 2", 13), ()),
    (("nought", "1 0 0 1 0 -2"), (1, 1, 1)), (("nought", "1 2 1"), (1, -1)), (("nought", "0 0 0"), (0, ENTRY)),
    (("nought", squares(1, 1, 1, 1, -4)), (1, 1, 1, 1, 1)), (("nought", "1000000000000 0 -1000000000000"), (-3, 3)),
    (("no nought", "1 0 0 1 0 -3", 2), ()), (("no nought", "1 0 0 1 0 -3", 3), ()), (("no nought", "1 0 -2", 3), ()),
    (("no nought", squares(1, 1, 1, 1), 0), ()), (("no nought", squares(1, 1, 1, 1), 2), ()),
    (("product", "2 2 3", "2 2 3", "1 0 5"), composing_tables(Form((2, 2, 3)), Form((2, 2, 3)))),
    (("product", "2 1 3", "2 1 3", "2 -1 3"), composing_tables(Form((2, 1, 3)), Form((2, 1, 3)))),
    (("product", "1 0 1", "1 0 1", "1 0 1"), ((1, 0, 0, -1), (0, 1, 1, 0))),
    (("product", "1 0 -3", "-1 0 3", "-1 2 2"), composing_tables(Form((1, 0, -3)), Form((-1, 0, 3)))),
    (("unit", 8, 6, 2), ()), (("unit", 5, 3, 1), ()), (("unit", 12, 4, 1), ()), (("unit", 21, 5, 1), ()), (("unit", 124, 3040, 273), ()),
    (("solved", "1 0 -2", 7), (5, 3)), (("solved", "2 2 3", 7), (1, 1)),
    (("solved", "1 0 -2", -1), (7, 5)), (("solved", "2 0 -4", -2), (1, 1)),
    (("unsolved", "1 0 -2", 3), ()), (("unsolved", "1 0 -3", -1), ()), (("unsolved", "3 0 -1", 1), ()),
    (("barred", "1 0 0 1 0 1", 7, 2), ()), (("barred", "1 0 1", 21, 3), ()), (("barred", "1 0 1", -1000, 0), ()),
    (("barred", "1 0 5", 3, 2), ()), (("barred", "1 0 1", 3, 2), ()), (("barred", "100 0 100", 7, 5), ()),
)
# What is not so, or is beyond what the claim may tell.
WRONG = (
    (("gives", "2 2 3", 7), (1, 0)), (("gives", "2 2 3", 1), (1, 0)), (("gives", "1 0 1", 1001), (0, 1)), (("gives", "1 0 1", 0), (0, 0)),
    (("gives", "1001 0 1", 1), (0, 1)), (("gives", "1 0 -1", 1), (1, 0)), (("gives", "1 2 1", 1), (1, 0)), (("gives", "-1 0 -1", -1), (1, 0)),
    (("gives", "1 0 1", 1), (1, 0, 0)), (("gives", "1 0 1", 1), (True, 0)), (("gives", "1 0 1", True), (1, 0)), (("gives", "1 0 1", 1), [1, 0]),
    (("misses", "2 2 3", 7), ()), (("misses", "2 2 3", 1), None), (("misses", "2 2 3", 1), (1,)), (("misses", "2 2 3", 0), ()),
    (("misses", "1 0 -2", 3), ()), (("misses", "1001 0 1", 2), ()), (("misses", "1 0 1", 1003), ()), (("misses", "2 2 3", 1), []),
    (("misses", "1000 0 1000", 1001), ()),
    (("all", squares(1, 1, 1, 1)), FOURS[:-1]), (("all", squares(1, 1, 1, 1)), FOURS + (FOURS[0],)), (("all", squares(1, 1, 1, 1)), list(FOURS)),
    (("all", squares(1, 1, 1, 1)), FOURS[::-1]), (("all", squares(1, 1, 1, 1)), FOURS[1:] + FOURS[:1]),
    (("all", squares(1, 1, 1, -1)), FOURS), (("all", "1 0 1"), ()), (("all", "1 0 1"), ((1, 0),) * 9), (("all", squares(1, 1, 1, 1)), ()),
    (("all", "1 0 0 0 1 0 0 1 0 1001"), FOURS),
    (("not all", squares(1, 1, 1, 1)), 7), (("not all", "1 0 1"), 5), (("not all", "1 0 1"), 0), (("not all", "1 0 1"), 1001),
    (("not all", "1 0 1"), True), (("not all", "1 0 1"), (6,)), (("not all", "1 0 -2"), 3), (("not all", "1 0 1"), ()), (("not all", "1001 0 1"), 2),
    (("alike", "2 2 3", "1 0 5"), ((1, 0), (0, 1))), (("alike", "1 0 1", "4 0 1"), ((2, 0), (0, 1))), (("alike", "1 0 1", "1 0 0"), ((1, 0), (0, 0))),
    (("alike", "1 0 1", "1 0 0 1 0 1"), ((1, 0), (0, 1))), (("alike", "1 0 0 1 0 1", "1 0 1"), ((1, 0), (0, 1))),
    (("alike", "0 0 0", "0 0 0"), ((ENTRY + 1, 1), (-1, 0))), (("alike", "1 0 1", "1 0 1"), ((True, 0), (0, 1))), (("alike", "1 0 1", "1 0 1"), ()),
    (("alike", "1 0 1", "1 0 1"), [(1, 0), (0, 1)]), (("alike", "1 0 1", "1 0 1"), ([1, 0], (0, 1))),
    (("alike", "1000000000000 0 1", "1000000000000 2000000000000 1000000000001"), ((1, 1), (0, 1))),
    (("properly alike", "2 1 3", "2 -1 3"), ((1, 0), (0, -1))), (("properly alike", "1 0 1", "1 0 1"), ((0, 1), (1, 0))),
    (("properly alike", "1 0 1", "4 0 4"), ((2, 0), (0, 2))), (("properly alike", "1 0 1", "1 0 1"), None),
    (("unlike", "2 2 3", "2 6 7"), ()), (("unlike", "1 0 1", "1 0 1"), ()), (("unlike", "1 0 1", "1 0 -1"), ()), (("unlike", "1 0 1", squares(*[1] * 5)), ()),
    (("unlike", squares(*[1] * 5), squares(*[2] * 5)), ()), (("unlike", "1 0 1", "1 0 1001"), ()), (("unlike", "1 0 1", "1 2 1"), ()),
    (("part", "2 2 3", "1 0 5", 3), ()), (("part", "2 2 3", "1 0 5", 0), ()), (("part", "2 2 3", "1 0 5", 4), ()), (("part", "1 0 1", "2 0 2", 2), ()),
    (("part", "1 0 1", "101 0 1", 101), ()), (("part", "1 0 1", "1 2 1", 0), ()), (("part", "1 0 1", squares(*[1] * 5), 0), ()),
    (("part", "2 2 3", "1 0 5", 5), 0), (("part", "2 2 3", "1 0 5", True), ()), (("part", "1 0 1", "3 0 3", 10 ** 12 + 39), ()),
    (("nought", "1 0 0 1 0 -2"), (0, 0, 0)), (("nought", "1 0 0 1 0 -2"), (1, 1)), (("nought", "1 0 0 1 0 -2"), (1, 0, 1)), (("nought", "1 0 1"), (0, 0)),
    (("nought", "0 0 0"), (0, ENTRY + 1)), (("nought", "1 2 1"), (True, -1)), (("nought", "0 0 0"), (0, False)), (("nought", "0 0 0"), ()),
    (("no nought", "1 0 0 1 0 -2", 2), ()), (("no nought", "1 0 0 1 0 -3", 5), ()), (("no nought", "1 0 0 1 0 -3", 0), ()), (("no nought", "1 2 1", 2), ()),
    (("no nought", squares(1, 1, 1, 1, 1), 0), ()), (("no nought", "101 0 1", 0), ()), (("no nought", "1 0 0 1 0 -3", 9), ()),
    (("product", "2 2 3", "2 2 3", "2 2 3"), composing_tables(Form((2, 2, 3)), Form((2, 2, 3)))),
    (("product", "2 1 3", "2 1 3", "2 1 3"), composing_tables(Form((2, 1, 3)), Form((2, 1, 3)))),
    (("product", "1 0 1", "1 0 1", "1 0 1"), ((-1, 0, 0, 1), (0, 1, 1, 0))), (("product", "1 0 1", "1 0 1", "1 0 1"), ((1, 0, 0, 1), (0, 1, -1, 0))),
    (("product", "1 0 1", "1 0 1", "1 0 1"), ((1, 0, 0, -1),)), (("product", "1 0 1", "1 0 1", "1 0 1"), ((1, 0, 0, -1), (0, True, 1, 0))),
    (("product", "2 0 2", "2 0 2", "2 0 2"), ((1, 0, 0, -1), (0, 1, 1, 0))), (("product", "0 0 0", "0 0 0", "0 0 0"), ((0,) * 4,) * 2),
    (("product", "1 0 1", "1 0 1", "2 2 1"), ((1, 0, 0, -1), (0, 1, 1, 0))), (("product", "1 0 1", "1 0 1", "1 0 1"), ()),
    (("unit", 8, 34, 12), ()), (("unit", 8, 2, 1), ()), (("unit", 8, 6, -2), ()), (("unit", 8, -6, 2), ()), (("unit", 5, 3, True), ()), (("unit", 8, 6, 2), (6, 2)),
    (("unit", 9, 5, 1), ()), (("unit", -4, 2, 0), ()), (("unit", -3, 1, 1), ()), (("unit", 1001, 1, 1), ()), (("unit", 4, 2, 1), ()), (("unit", 7, 1, 1), ()),
    (("unit", "8", 6, 2), ()), (("unit", 1004, 1, 1), ()),
    (("solved", "1 0 -2", 7), (5, 2)), (("solved", "1 0 -2", 0), (0, 0)), (("solved", "1 0 -4", 5), (3, 1)), (("solved", "1 0 -2", 1001), (43, 0)),
    (("solved", "1 0 0 1 0 1", 3), (1, 1, 1)), (("solved", "-1 0 -1", -1), (1, 0)), (("solved", "1 0 -2", 7), (ENTRY * 10, 3)), (("solved", "1 0 -2", 7), ()),
    (("unsolved", "1 0 -2", 7), ()), (("unsolved", "2 0 -4", 3), ()), (("unsolved", "1 0 1", 3), ()), (("unsolved", "1 0 -2", 0), ()), (("unsolved", "1 0 -2", 1003), ()),
    (("unsolved", "1 0 -4", 2), ()), (("unsolved", "1 0 -2", 3), None), (("unsolved", "1 0 -251", 2), ()),
    (("barred", "1 0 0 1 0 1", 7, 7), ()), (("barred", "1 0 0 1 0 1", 6, 2), ()), (("barred", "1 0 1", 0, 0), ()), (("barred", "1 0 1", 0, 2), ()),
    (("barred", "1 0 1", 21, 9), ()), (("barred", "1 0 1", -1001, 0), ()), (("barred", "1 2 1", 2, 2), ()), (("barred", "101 0 1", -1, 0), ()),
    (("barred", squares(*[1] * 5), -1, 0), ()), (("barred", "1 0 1", 3, 2), [()]), (("barred", "1 0 1", 3, True), ()),
)
NO_TEXTS = ("", " ", "1", "1 0", "1 0 1 0", "1  0 1", " 1 0 1", "1 0 1 ", "1 0 01", "1 -0 1", "+1 0 1", "1 0 1\n", "1,0,1", "1 0 x", "1.0 0 1",
            "1 0 1000000000001", "1\t0 1", "1 0 1 1", (1, 0, 1), Form((1, 0, 1)), None, 1, b"1 0 1", ["1 0 1"], "- 0 1", "1 0 1 0 0 1 0")


class CheckerTest(Case):

    def check(self, claim, certificate, wanted):
        told = accepts(claim, certificate)
        self.assertIs(told, wanted, (claim, certificate))
        self.assertIs(accepts(certificate=certificate, claim=claim), wanted)

    def test_examples(self):
        self.assertEqual([accepts(("gives", "2 2 3", 7), (1, 1)), accepts(("alike", "2 2 3", "2 6 7"), ((1, 1), (0, 1))),
                          accepts(("part", "2 2 3", "1 0 5", 5), ()), accepts(("part", "2 2 3", "1 0 5", 3), ()),
                          accepts(("nought", "1 0 0 1 0 -2"), (1, 1, 1)), accepts(("unit", 8, 34, 12), ()),
                          accepts(("solved", "1 0 -2", 7), (5, 3)), accepts(("not all", "1 0 1"), 6)],
                         [True, True, True, False, True, False, True, True])

    def test_right_ones(self):
        for claim, certificate in RIGHT:
            self.assertIs(right(claim, certificate), True, (claim, certificate))
            self.check(claim, certificate, True)
        self.assertEqual({claim[0] for claim, _ in RIGHT}, set(RULES))

    def test_wrong_ones(self):
        for claim, certificate in WRONG:
            if claim != ("part", "1 0 1", "3 0 3", 10 ** 12 + 39):
                self.assertIs(right(claim, certificate), False, (claim, certificate))
            self.check(claim, certificate, False)
        self.assertEqual({claim[0] for claim, _ in WRONG}, set(RULES))

    def test_certificates_of_other_claims(self):
        certificates = [certificate for _, certificate in RIGHT]
        for claim, _ in RIGHT:
            for certificate in certificates:
                self.check(claim, certificate, right(claim, certificate))

    def test_other_words(self):
        for claim, certificate in RIGHT:
            for word in list(RULES) + ["", "Gives", "give", "gives ", "not  all", "unalike", "proper", "accepts"]:
                other = (word,) + claim[1:]
                self.check(other, certificate, right(other, certificate))

    def test_junk_in_any_place(self):
        for claim, certificate in RIGHT:
            for junk in JUNK:
                self.check(claim, junk, right(claim, junk))
                self.check(junk, certificate, right(junk, certificate))
                for place_ in range(len(claim)):
                    if claim[place_] is not junk and not (claim[0] in ("gives", "not all", "misses") and junk == 1):
                        other = claim[:place_] + (junk,) + claim[place_ + 1:]
                        self.check(other, certificate, right(other, certificate))
            self.check(claim[:-1], certificate, False)
            self.check(claim + (0,), certificate, False)
            self.check(claim + ((),), certificate, False)
            self.check(list(claim), certificate, False)
            self.check((claim,), certificate, False)
        for junk, other in itertools.product(JUNK, repeat=2):
            self.check(junk, other, (junk, other) == (("gives", "1 0 1", 1), (0, 1)))
            self.check((junk, other), other, False)

    def test_no_texts(self):
        for claim, certificate in RIGHT:
            for place_ in range(1, 1 + RULES[claim[0]][0]):
                for text in NO_TEXTS:
                    self.check(claim[:place_] + (text,) + claim[place_ + 1:], certificate, False)

    def test_bent_certificates(self):
        """Each integer in the certificate one more or less, and with what is no integer in its place."""
        bent = 0
        for claim, certificate in RIGHT:
            for other in bends(certificate):
                self.check(claim, other, right(claim, other))
                bent += 1
        self.assertGreater(bent, 1000)

    def test_bent_claims(self):
        """Each coefficient and number one more or less; numbers stay where the plain ways know them."""
        found = {True: 0, False: 0}
        for claim, certificate in RIGHT:
            for place_, part in enumerate(claim):
                if type(part) is int and abs(part) < 1000:
                    others = [part - 1, part + 1, -part, part + 2]
                elif type(part) is str and place_ and len(part) < 40:
                    row = part.split(" ")
                    others = [" ".join(row[:k] + [str(int(row[k]) + step)] + row[k + 1:]) for k in range(len(row)) for step in (-1, 1)]
                else:
                    others = []
                for other in others:
                    bent = claim[:place_] + (other,) + claim[place_ + 1:]
                    wanted = right(bent, certificate)
                    self.check(bent, certificate, wanted)
                    found[wanted] += 1
        self.assertGreater(min(found.values()), 30)

    def test_bounds(self):
        vector = (ENTRY, 0)
        self.check(("nought", "0 0 1"), vector, True)
        self.check(("nought", "0 0 1"), (ENTRY + 1, 0), False)
        self.check(("nought", "0 0 1"), (-ENTRY, 0), True)
        self.check(("nought", "0 0 1"), (-ENTRY - 1, 0), False)
        self.check(("gives", "1 0 1", 1000), (30, 10), True)
        self.check(("gives", "1000 0 1000", 1000), (1, 0), True)
        self.check(("gives", "1001 0 1000", 1000), (0, 1), False)
        self.check(("no nought", "100 0 100", 0), (), True)
        self.check(("no nought", "100 0 101", 0), (), False)
        self.check(("no nought", "1 0 1", 999999999999), (), False)
        self.check(("barred", "1 0 1", -1000, 0), (), True)
        self.check(("solved", "1 0 1", 1000), (30, 10), True)
        self.check(("solved", "1 0 1", 1001), (5, 1), False)
        self.check(("unit", 997, *unit(997)), (), True)
        self.check(("alike", "1 0 1", "1 0 1"), ((0, 1), (-1, 0)), True)

    def test_great_places(self):
        """The prime 999999999989 leaves the rest 1 by 4: -1 is a square there."""
        self.assertEqual(999999999989 % 4, 1)
        self.check(("no nought", "1 0 1", 999999999989), (), False)
        nonsquare = next(k for k in range(2, 100) if pow(k, 999999999988 // 2, 999999999989) != 1)
        self.check(("no nought", f"1 0 {-nonsquare}", 999999999989), (), True)
        self.check(("part", "1 0 1", f"1 0 {nonsquare}", 999999999989), (), True)
        self.check(("part", "1 0 1", "1 0 4", 999999999989), (), False)
        self.check(("barred", "1 0 1", 7, 999999999989), (), False)


def unit(d):
    """The least unit, by the continued fraction of the root, for an odd or even discriminant."""
    u = 1
    best = None
    while best is None:
        square = d * u * u
        if math.isqrt(square + 4) ** 2 == square + 4:
            best = math.isqrt(square + 4), u
        elif math.isqrt(max(square - 4, 0)) ** 2 == square - 4:
            t = math.isqrt(square - 4)
            best = (t * t + d * u * u) // 2, t * u
        u += 1
    return best


def bends(value):
    """The value with one integer in it bent, or one part left out or doubled."""
    if type(value) is int:
        yield from (value + 1, value - 1, -value, 10 ** 76, None, str(value), (value,), [value])
        yield from ([bool(value)] if value in (0, 1) else [])
    elif type(value) is tuple:
        for k, part in enumerate(value[:10]):
            for other in bends(part):
                yield value[:k] + (other,) + value[k + 1:]
            yield value[:k] + value[k + 1:]
            yield value[:k] + (part, part) + value[k + 1:]
        yield list(value)
        yield (value,)
        yield value + (0,)


class AllTest(Case):

    def certificate(self, row, numbers, missed=None):
        """Vectors with these values, in growing boxes; none for the number that is missed."""
        by_value = {}
        size = 2
        while not set(numbers) - {missed} <= set(by_value):
            for vector in itertools.product(range(size + 1), *[range(-size, size + 1)] * (reference.unknowns(row) - 1)):
                by_value[reference.value(row, vector)] = vector
            size += 2
        return tuple(by_value.get(number) for number in numbers)

    def test_nine_and_twenty_nine(self):
        """A form that is even between needs nine, any other one twenty-nine, in their order."""
        for squares_ in ((1, 1, 1, 1), (1, 1, 2, 4), (1, 2, 3, 7), (1, 2, 5, 6)):
            row = reference.diagonal(squares_)
            text = " ".join(map(str, row))
            nine = self.certificate(row, NINE)
            self.assertIs(accepts(("all", text), nine), True)
            self.assertIs(accepts(("all", text), self.certificate(row, TWENTY_NINE)), False)
            for k in range(9):
                for other in (nine[:k] + nine[k + 1:], nine[:k] + (nine[k - 1],) + nine[k + 1:], nine[:k] + (None,) + nine[k + 1:]):
                    self.assertIs(accepts(("all", text), other), False)
        for row in ((1, 1, 0, 0, 1, 0, 0, 1, 1, 1), (1, 1, 1, 1, 1, 1, 1, 1, 1, 1)):
            text = " ".join(map(str, row))
            all_ = self.certificate(row, TWENTY_NINE)
            self.assertIs(accepts(("all", text), all_), True)
            self.assertIs(accepts(("all", text), self.certificate(row, NINE)), False)
            for k in range(0, 29, 3):
                other = all_[:k] + (all_[k - 1],) + all_[k + 1:]
                self.assertIs(accepts(("all", text), other), False)

    def test_forms_that_miss_one(self):
        """No certificate is right, whatever stands in the place of the number that is missed; that number tells it."""
        for number, rows in MISSING_ONE.items():
            row = rows[0]
            text = " ".join(map(str, row))
            numbers = TWENTY_NINE if number not in NINE else NINE
            vectors = self.certificate(row, numbers, number)
            self.assertIsNone(vectors[numbers.index(number)])
            self.assertIs(accepts(("all", text), tuple(v if v is not None else vectors[0 if number > 1 else 1] for v in vectors)), False)
            self.assertIs(accepts(("not all", text), number), True)
            for other in NINE:
                self.assertIs(accepts(("not all", text), other), other == number)
        text = " ".join(map(str, LATE))
        for number in LATE_ONES:
            self.assertIs(accepts(("not all", text), number), True)


class ProductTest(Case):

    def test_no_other_class_has_tables(self):
        """All small tables that fit: the third form is of the class of the product (Gauss)."""
        found = {True: 0, False: 0}
        for d in (-20, -23, -31, -56, 12, 21, 40, 60):
            leaders = two.leaders(d)
            for row, other in itertools.combinations_with_replacement(leaders, 2):
                product = two.leader_of(two.product(row, other))
                for third in leaders:
                    pair = self.some_tables(row, other, third)
                    claim = ("product", *(" ".join(map(str, one)) for one in (row, other, third)))
                    if pair is not None:
                        self.assertEqual(third, product, claim)
                        self.assertIs(accepts(claim, pair), True)
                    found[pair is not None] += 1
        self.assertGreater(min(found.values()), 20)

    def some_tables(self, row, other, third):
        """The first numbers of both lines make the product of the first coefficients, and so on."""
        by = {}
        for k, (x, z) in enumerate(itertools.product((0, 1), repeat=2)):
            wanted = (row[0], row[2])[x] * (other[0], other[2])[z]
            by[k] = [(p, q) for p, q in itertools.product(range(-4, 5), repeat=2) if two.value(third, p, q) == wanted]
        for one, two_, three, four in itertools.product(by[0], by[1], by[2], by[3]):
            p, q = zip(one, two_, three, four)
            if p[0] * q[1] - p[1] * q[0] == row[0] and p[0] * q[2] - p[2] * q[0] == other[0]:
                if told_product(row, other, third, (p, q)):
                    return p, q
        return None

    def test_signs_of_the_first_coefficients(self):
        """With the other sign the tables belong to opposite classes."""
        row = (2, 1, 3)
        pair = composing_tables(Form(row), Form(row))
        flipped = (pair[0], tuple(-x for x in pair[1]))
        self.assertIs(accepts(("product", "2 1 3", "2 1 3", "2 -1 3"), pair), True)
        self.assertIs(accepts(("product", "2 1 3", "2 1 3", "2 1 3"), flipped), False)
        first = (pair[0][2:] + pair[0][:2], pair[1][2:] + pair[1][:2])
        self.assertIs(accepts(("product", "3 1 2", "2 1 3", "2 -1 3"), first), False)
        for x, y, z, t in itertools.product(range(-2, 3), repeat=4):
            told = [sum(a * b for a, b in zip(line, (x * z, x * t, y * z, y * t))) for line in flipped]
            self.assertEqual(two.value(row, x, y) * two.value(row, z, t), two.value((2, 1, 3), *told))

    def test_great_numbers_in_tables(self):
        for place_ in range(4):
            for number in (ENTRY, ENTRY + 1, 10 ** 79):
                line = (0,) * place_ + (number,) + (0,) * (3 - place_)
                self.assertIs(accepts(("product", "1 0 1", "1 0 1", "1 0 1"), (line, line)), False)
                self.assertIs(accepts(("product", "1 0 1", "1 0 1", "1 0 1"), ((1, 0, 0, -1), line)), False)
