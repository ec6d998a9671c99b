"""Whether values are what the document asks: integers, discriminants, vectors, changes, coefficients, looks."""

from formworld.errors import InvalidChange, InvalidCoefficients, InvalidLooks, InvalidNumber, InvalidVector
from formworld.limits import LEAST_DISCRIMINANT, MOST_DISCRIMINANT, MOST_LOOKS, MOST_SIZE
from formworld.primes import is_square
from formworld.tables import UNKNOWNS, determinant

MOST_ENTRY = 10 ** 60 * 10 ** 15
MOST_DIGITS = 80
MOST_LOOKED = 200
DIGITS = "0123456789"


def is_integer(value):
    """True and False are integers for Python, but not for the document."""
    return isinstance(value, int) and not isinstance(value, bool)


def is_within(value, least, most):
    return is_integer(value) and least <= value <= most


def is_discriminant(value):
    return is_within(value, LEAST_DISCRIMINANT, MOST_DISCRIMINANT) and value % 4 < 2 and not is_square(value)


def are_within(value, many, size):
    """Whether the value is a tuple of so many integers, none above this size."""
    return isinstance(value, tuple) and len(value) == many and first_beyond(value, size) is None


def first_beyond(values, size):
    """The index of the first value that is no integer up to this size, None if there is none."""
    for index, value in enumerate(values):
        if not is_within(value, -size, size):
            return index
    return None


def check_number(number, least, most):
    if not is_within(number, least, most):
        raise InvalidNumber(number)


def is_other_than_nought(value, size):
    return is_within(value, -size, size) and value != 0


def check_other_than_nought(number, size):
    if not is_other_than_nought(number, size):
        raise InvalidNumber(number)


def check_coefficients(coefficients):
    if not isinstance(coefficients, tuple) or len(coefficients) not in UNKNOWNS:
        raise InvalidCoefficients(None)
    index = first_beyond(coefficients, MOST_SIZE)
    if index is not None:
        raise InvalidCoefficients(index)


def check_vector(vector, many):
    if not isinstance(vector, tuple) or len(vector) != many:
        raise InvalidVector(None)
    index = first_beyond(vector, MOST_ENTRY)
    if index is not None:
        raise InvalidVector(index)


def is_vector(value, many):
    return are_within(value, many, MOST_ENTRY)


def is_change(value, many):
    if not isinstance(value, tuple) or len(value) != many or not all([is_vector(row, many) for row in value]):
        return False
    return abs(determinant(value)) == 1


def check_change(change, many):
    if not isinstance(change, tuple) or len(change) != many:
        raise InvalidChange(None)
    for index, row in enumerate(change):
        if not is_vector(row, many):
            raise InvalidChange(index)
    if abs(determinant(change)) != 1:
        raise InvalidChange(None)


def is_look(value):
    if not isinstance(value, tuple) or len(value) != 2:
        return False
    return is_within(value[0], 1, MOST_LOOKED) and isinstance(value[1], bool)


def check_looks(looks):
    if not isinstance(looks, tuple):
        raise InvalidLooks(None)
    for index, look in enumerate(looks):
        if index == MOST_LOOKS or not is_look(look):
            raise InvalidLooks(index)


def read_integer(word):
    """The integer that is written with this word and no other one, None if there is none."""
    digits = word.removeprefix("-")
    if not 0 < len(digits) <= MOST_DIGITS or any([letter not in DIGITS for letter in digits]):
        return None
    number = int(word)
    return number if str(number) == word else None
