"""The least changes of coefficients after which a form gives a number, or all; and forms that fit looks."""

from formworld.checks import check_looks, check_number
from formworld.errors import InvalidForms
from formworld.fibres import some_vector
from formworld.forms import Form
from formworld.giving import first_missed, short_table
from formworld.limits import MOST_NUMBER
from formworld.looking import fits_looks
from formworld.requirements import is_positive_small, require_few_unknowns, require_form, require_positive_small

MOST_CHANGED = 2
MOST_FORMS = 20


def least_mends(form, number):
    """The coefficients of the forms with the fewest changes that give the number, None if there are none."""
    require_form(form)
    check_number(number, 1, MOST_NUMBER)
    require_mendable(form)
    return mended_rows(form, number)


def least_all_mends(form):
    """The coefficients of the forms with the fewest changes that give all numbers, None if there are none."""
    require_form(form)
    require_mendable(form)
    return mended_rows(form, None)


def fitting_forms(forms, looks):
    """The indexes of the forms that fit the looks, ascending."""
    check_forms(forms)
    check_looks(looks)
    return tuple([index for index, form in enumerate(forms) if fits_looks(short_table(form), looks)])


def check_forms(forms):
    if not isinstance(forms, tuple) or not forms:
        raise InvalidForms(None)
    for index, form in enumerate(forms):
        if index == MOST_FORMS or not (isinstance(form, Form) and is_positive_small(form)):
            raise InvalidForms(index)


def require_mendable(form):
    require_positive_small(form)
    require_few_unknowns(form)


def mended_rows(form, number):
    """What `least_mends` tells for the number, or, for None, `least_all_mends`."""
    rows = [(0, form.coefficients)]
    for _ in range(MOST_CHANGED + 1):
        found = [coefficients for _, coefficients in rows if is_mended(Form(coefficients), number)]
        if found:
            return tuple(sorted(found))
        rows = changed_rows(rows)
    return None


def is_mended(form, number):
    if form.kind != "positive":
        return False
    if number is None:
        return first_missed(form) is None
    return some_vector(short_table(form), 2 * number) is not None


def changed_rows(rows):
    """Each row with one more change; it has in front the index from which on no coefficient is changed yet."""
    return [
        (index + 1, coefficients[:index] + (coefficients[index] + step,) + coefficients[index + 1:])
        for start, coefficients in rows for index in range(start, len(coefficients)) for step in (-1, 1)
    ]
