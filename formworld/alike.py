"""Which positive forms are alike, and the own changes of a form."""

from formworld.bases import least_basis, least_system, matching_rest, own_systems, shells_of
from formworld.forms import Form
from formworld.requirements import require_few_unknowns, require_form, require_positive_small
from formworld.tables import coefficients_of, columns_of, combined, determinant, inverse_change, joined_changes
from formworld.tables import product_of, table_between


def least_form(form):
    """The least form of all that are alike to this one."""
    require_one(form)
    table = least_basis(form.table)[1]
    return Form(coefficients_of(table_between(table, least_system(table, shells_of(table)))))


def change_between(form, other):
    """Any change that makes the form into the other one, None if there is none."""
    require_two(form, other)
    if form.unknowns != other.unknowns or form.measure != other.measure:
        return None
    basis, table = least_basis(form.table)
    other_basis, wanted = least_basis(other.table)
    if lengths_of(table) != lengths_of(wanted):
        return None
    system = matching_rest(table, shells_of(table), [], wanted)
    if system is None:
        return None
    vectors = [combined(basis, numbers) for numbers in system]
    return joined_changes(columns_of(vectors), inverse_change(columns_of(other_basis)))


def is_alike(form, other):
    """Whether some change makes the one form into the other."""
    return change_between(form, other) is not None


def count_own(form):
    """How many own changes the form has."""
    return product_count(all_own_systems(form))


def count_own_proper(form):
    """How many of the own changes are proper: half of them if one is not."""
    rows = all_own_systems(form)
    return product_count(rows) // 2 if has_improper(rows) else product_count(rows)


def is_mirrored(form):
    """Whether some own change is not proper."""
    return has_improper(all_own_systems(form))


def product_count(rows):
    return product_of([len(systems) for systems in rows])


def has_improper(rows):
    return any([determinant(system) == -1 for systems in rows for system in systems])


def all_own_systems(form):
    require_one(form)
    table = least_basis(form.table)[1]
    return own_systems(table, shells_of(table))


def lengths_of(table):
    return [row[index] for index, row in enumerate(table)]


def require_last(form):
    require_positive_small(form)
    require_few_unknowns(form)


def require_one(form):
    require_form(form)
    require_last(form)


def require_two(form, other):
    require_form(form)
    require_form(other)
    require_last(form)
    require_last(other)
