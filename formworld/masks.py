"""Forms with hidden coefficients: what is so for all fillings that fit what has been looked at."""

from formworld.alike import is_alike
from formworld.checks import MOST_LOOKED, check_looks, check_number, is_within
from formworld.errors import InvalidMask, NoFilling
from formworld.forms import Form
from formworld.looking import given_numbers, is_fitting, looked_numbers
from formworld.reducing import short_basis

MASK_SIZES = (3, 6, 10)
MOST_SHOWN = 20
MOST_HIDDEN = 4
MOST_REACH = 3


def fillings(mask, reach, looks):
    """The coefficients of all fillings that fit, ascending."""
    require_mask(mask, reach, looks)
    return tuple([coefficients for coefficients, _ in fitting_rows(mask, reach, looks, [])])


def verdict(mask, reach, looks, number):
    """Whether all fillings that fit give the number, or none, or some do and others do not."""
    require_mask(mask, reach, looks)
    check_number(number, 1, MOST_LOOKED)
    told = [number in given for _, given in some_rows(mask, reach, looks, [number])]
    if all(told):
        return "surely"
    return "perhaps" if any(told) else "never"


def best_number(mask, reach, looks, most):
    """The number up to `most` that tells most about which filling it is, None if no number tells anything."""
    require_mask(mask, reach, looks)
    check_number(most, 1, MOST_LOOKED)
    rows = some_rows(mask, reach, looks, list(range(1, most + 1)))
    best = None
    greatest = 0
    for number in range(1, most + 1):
        many = len([1 for _, given in rows if number in given])
        lesser = min(many, len(rows) - many)
        if lesser > greatest:
            best = number
            greatest = lesser
    return best


def surely_alike(mask, reach, looks):
    """Whether all fillings that fit are alike to one another."""
    require_mask(mask, reach, looks)
    forms = [Form(coefficients) for coefficients, _ in some_rows(mask, reach, looks, [])]
    for form in forms[1:]:
        if not is_alike(forms[0], form):
            return False
    return True


def require_mask(mask, reach, looks):
    check_mask(mask)
    check_number(reach, 1, MOST_REACH)
    check_looks(looks)


def check_mask(mask):
    if not isinstance(mask, tuple) or len(mask) not in MASK_SIZES:
        raise InvalidMask(None)
    hidden = 0
    for index, element in enumerate(mask):
        if element is None:
            hidden = hidden + 1
        if hidden > MOST_HIDDEN or not (element is None or is_within(element, -MOST_SHOWN, MOST_SHOWN)):
            raise InvalidMask(index)
    if hidden == 0:
        raise InvalidMask(None)


def filled_rows(mask, reach):
    """The mask with all integers in reach in its hidden places, ascending."""
    rows = [()]
    for element in mask:
        numbers = [element] if element is not None else list(range(-reach, reach + 1))
        rows = [row + (number,) for row in rows for number in numbers]
    return rows


def fitting_rows(mask, reach, looks, numbers):
    """For each filling that fits its coefficients, and which of the numbers, and of those looked at, it gives."""
    asked = numbers + looked_numbers(looks)
    found = []
    for coefficients in filled_rows(mask, reach):
        form = Form(coefficients)
        if form.kind == "positive":
            given = given_numbers(short_basis(form.table)[1], asked) if asked else {}
            if is_fitting(given, looks):
                found.append((coefficients, given))
    return found


def some_rows(mask, reach, looks, numbers):
    rows = fitting_rows(mask, reach, looks, numbers)
    if not rows:
        raise NoFilling()
    return rows
