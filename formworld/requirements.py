"""What the document asks of forms, places and discriminants.

Each function that requires something raises the error that is due, or none; the other ones tell whether it is so.
"""

from formworld.checks import first_beyond, is_discriminant, is_within
from formworld.errors import Flat, InvalidDiscriminant, InvalidPlace, NotAForm, NotBinary, NotMixed, NotPositive
from formworld.errors import NotPrimitive, TooGreat
from formworld.forms import Form
from formworld.limits import MOST_PLACED, MOST_SIZE, MOST_SMALL, MOST_UNKNOWNS
from formworld.primes import is_prime
from formworld.rings import discriminant_at


def require_form(form):
    if not isinstance(form, Form):
        raise NotAForm(form)


def require_place(place):
    if not is_within(place, 0, MOST_SIZE) or not (place == 0 or is_prime(place)):
        raise InvalidPlace(place)


def require_discriminant(discriminant):
    if not is_discriminant(discriminant):
        raise InvalidDiscriminant(discriminant)


def require_mixed_discriminant(discriminant):
    if not is_discriminant(discriminant) or discriminant < 0:
        raise InvalidDiscriminant(discriminant)


def require_size(form, size):
    index = first_beyond(form.coefficients, size)
    if index is not None:
        raise TooGreat(form.coefficients[index])


def require_few_unknowns(form):
    if form.unknowns == MOST_UNKNOWNS:
        raise TooGreat(form.unknowns)


def require_positive_small(form):
    if form.kind != "positive":
        raise NotPositive()
    require_size(form, MOST_SMALL)


def is_positive_small(form):
    return form.kind == "positive" and first_beyond(form.coefficients, MOST_SMALL) is None


def require_placed(form):
    if form.kind == "flat":
        raise Flat()
    require_size(form, MOST_PLACED)
    require_few_unknowns(form)


def require_binary(form):
    if not is_binary(form):
        raise NotBinary(form)


def is_binary(form):
    if form.unknowns != 2:
        return False
    discriminant = discriminant_at(form.coefficients)
    return is_discriminant(discriminant) and (discriminant > 0 or form.coefficients[0] > 0)


def require_primitive_binary(form):
    require_binary(form)
    if form.content != 1:
        raise NotPrimitive()


def require_mixed_primitive(form):
    require_binary(form)
    if discriminant_at(form.coefficients) < 0:
        raise NotMixed()
    require_primitive_binary(form)
