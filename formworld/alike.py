"""Which positive forms are alike, and the own changes of a form."""

from formworld.bases import least_bases
from formworld.forms import Form
from formworld.requirements import require_few_unknowns, require_form, require_positive_small
from formworld.tables import coefficients_of, columns_of, determinant, inverse_change, joined_changes, table_between


def least_form(form):
    """The least form of all that are alike to this one."""
    require_one(form)
    return Form(least_coefficients(form.table, least_bases(form.table)))


def change_between(form, other):
    """Any change that makes the form into the other one, None if there is none."""
    require_two(form, other)
    if form.unknowns != other.unknowns or form.measure != other.measure:
        return None
    bases = least_bases(form.table)
    other_bases = least_bases(other.table)
    if least_coefficients(form.table, bases) != least_coefficients(other.table, other_bases):
        return None
    return joined_changes(columns_of(bases[0]), inverse_change(columns_of(other_bases[0])))


def is_alike(form, other):
    """Whether some change makes the one form into the other."""
    return change_between(form, other) is not None


def count_own(form):
    """How many own changes the form has: as many as there are bases in which it becomes its least form."""
    require_one(form)
    return len(least_bases(form.table))


def count_own_proper(form):
    """How many of the own changes are proper: those between bases of one determinant."""
    require_one(form)
    signs = basis_signs(form)
    return signs.count(signs[0])


def is_mirrored(form):
    """Whether some own change is not proper."""
    require_one(form)
    signs = basis_signs(form)
    return signs.count(signs[0]) < len(signs)


def basis_signs(form):
    return [determinant(basis) for basis in least_bases(form.table)]


def least_coefficients(table, bases):
    return coefficients_of(table_between(table, bases[0]))


def require_last(form):
    require_positive_small(form)
    require_few_unknowns(form)


def require_one(form):
    require_form(form)
    require_last(form)


def require_two(form, other):
    require_form(form)
    require_form(other)
    require_last(form)
    require_last(other)
