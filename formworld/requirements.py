"""What the document asks of forms, places and discriminants.

Each function that requires something raises the error that is due, or none; the other ones tell whether it is so.
"""

from formworld.checks import first_beyond, is_discriminant, is_within
from formworld.errors import Flat, InvalidDiscriminant, InvalidPlace, NotAForm, NotBinary, NotMixed, NotPositive
from formworld.errors import NotPrimitive, TooGreat
from formworld.forms import Form
from formworld.limits import MOST_PLACED, MOST_SIZE, MOST_SMALL, MOST_UNKNOWNS
from formworld.primes import is_prime
from formworld.rings import discriminant_at


def require_form(form):
    if not isinstance(form, Form):
        raise NotAForm(form)


def is_place(value):
    return is_within(value, 0, MOST_SIZE) and (value == 0 or is_prime(value))


def require_place(place):
    if not is_place(place):
        raise InvalidPlace(place)


def require_discriminant(discriminant):
    if not is_discriminant(discriminant):
        raise InvalidDiscriminant(discriminant)


def require_mixed_discriminant(discriminant):
    if not is_discriminant(discriminant) or discriminant < 0:
        raise InvalidDiscriminant(discriminant)


def require_size(form, size):
    index = first_beyond(form.coefficients, size)
    if index is not None:
        raise TooGreat(form.coefficients[index])


def require_few_unknowns(form):
    if form.unknowns == MOST_UNKNOWNS:
        raise TooGreat(form.unknowns)


def require_positive_small(form):
    if form.kind != "positive":
        raise NotPositive()
    require_size(form, MOST_SMALL)


def is_positive_small(form):
    return form.kind == "positive" and first_beyond(form.coefficients, MOST_SMALL) is None


def is_small_of_few(form):
    """Whether the form is positive and small, and has up to four unknowns."""
    return is_positive_small(form) and form.unknowns < MOST_UNKNOWNS


def require_placed(form):
    if form.kind == "flat":
        raise Flat()
    require_size(form, MOST_PLACED)
    require_few_unknowns(form)


def is_placed(form):
    if form.kind == "flat" or form.unknowns == MOST_UNKNOWNS:
        return False
    return first_beyond(form.coefficients, MOST_PLACED) is None


def require_binary(form):
    if not is_binary(form):
        raise NotBinary(form)


def is_binary(form):
    if form.unknowns != 2:
        return False
    discriminant = discriminant_at(form.coefficients)
    return is_discriminant(discriminant) and (discriminant > 0 or form.coefficients[0] > 0)


def require_primitive_binary(form):
    require_binary(form)
    if form.content != 1:
        raise NotPrimitive()


def is_primitive_binary(form):
    return is_binary(form) and form.content == 1


def are_of_group(forms):
    """Whether they are primitive binary forms of one discriminant."""
    if not all([is_primitive_binary(form) for form in forms]):
        return False
    return len(set([discriminant_at(form.coefficients) for form in forms])) == 1


def require_mixed_primitive(form):
    require_binary(form)
    if discriminant_at(form.coefficients) < 0:
        raise NotMixed()
    require_primitive_binary(form)
