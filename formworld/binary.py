"""Forms in two unknowns: their classes, told by reduced forms."""

from formworld.forms import Form
from formworld.requirements import require_binary, require_form
from formworld.rings import change_along, discriminant_at, is_reduced_row, leading_of, ring_of


def discriminant_of(form):
    """The discriminant."""
    require_form(form)
    require_binary(form)
    return discriminant_at(form.coefficients)


def is_reduced(form):
    """Whether the form is reduced."""
    discriminant = discriminant_of(form)
    return is_reduced_row(form.coefficients, discriminant)


def leading(form):
    """The leading form of the class."""
    return ring(form)[0]


def ring(form):
    """All reduced forms of the class, as they follow one another, the leading one first."""
    require_form(form)
    require_binary(form)
    return tuple([Form(row) for row in ring_of(form.coefficients)])


def is_properly_alike(form, other):
    """Whether the forms are of one class."""
    require_two(form, other)
    return leading_of(form.coefficients) == leading_of(other.coefficients)


def proper_change(form, other):
    """Any proper change that makes the form into the other one, None if there is none."""
    require_two(form, other)
    least = leading_of(form.coefficients)
    if leading_of(other.coefficients) != least:
        return None
    return change_along(form.coefficients, other.coefficients, least)


def require_two(form, other):
    require_form(form)
    require_form(other)
    require_binary(form)
    require_binary(other)
