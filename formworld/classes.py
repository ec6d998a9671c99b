"""The classes of primitive binary forms of a discriminant."""

from formworld.checks import check_other_than_nought
from formworld.forms import Form
from formworld.grouping import class_rows, is_primitive, opposite_row
from formworld.limits import MOST_NUMBER
from formworld.requirements import require_binary, require_discriminant, require_form
from formworld.rings import leading_of, main_row, rows_giving


def classes(discriminant):
    """The leading forms of all classes of primitive forms, ascending."""
    require_discriminant(discriminant)
    return tuple([Form(row) for row in class_rows(discriminant)])


def count_classes(discriminant):
    """How many classes of primitive forms there are."""
    require_discriminant(discriminant)
    return len(class_rows(discriminant))


def main_form(discriminant):
    """The leading form of the main class."""
    require_discriminant(discriminant)
    return Form(leading_of(main_row(discriminant)))


def opposite(form):
    """The leading form of the opposite class."""
    require_form(form)
    require_binary(form)
    return Form(opposite_row(form.coefficients))


def is_two_sided(form):
    """Whether the class is its own opposite."""
    require_form(form)
    require_binary(form)
    return opposite_row(form.coefficients) == leading_of(form.coefficients)


def classes_giving(discriminant, number):
    """The leading forms of the classes of primitive forms that give the number properly, ascending."""
    require_discriminant(discriminant)
    check_other_than_nought(number, MOST_NUMBER)
    if discriminant < 0 and number < 0:
        return ()
    rows = [leading_of(row) for row in rows_giving(discriminant, number) if is_primitive(row)]
    return tuple([Form(row) for row in sorted(set(rows))])
