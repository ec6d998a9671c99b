"""What the document asks of forms and places that are passed: each function raises the error that is due, or none."""

from formworld.checks import first_beyond, is_within
from formworld.errors import Flat, InvalidPlace, NotAForm, NotPositive, TooGreat
from formworld.forms import Form
from formworld.limits import MOST_PLACED, MOST_SIZE, MOST_SMALL, MOST_UNKNOWNS
from formworld.primes import is_prime


def require_form(form):
    if not isinstance(form, Form):
        raise NotAForm(form)


def require_place(place):
    if not is_within(place, 0, MOST_SIZE) or not (place == 0 or is_prime(place)):
        raise InvalidPlace(place)


def require_size(form, size):
    index = first_beyond(form.coefficients, size)
    if index is not None:
        raise TooGreat(form.coefficients[index])


def require_few_unknowns(form):
    if form.unknowns == MOST_UNKNOWNS:
        raise TooGreat(form.unknowns)


def require_positive_small(form):
    if form.kind != "positive":
        raise NotPositive()
    require_size(form, MOST_SMALL)


def require_placed(form):
    if form.kind == "flat":
        raise Flat()
    require_size(form, MOST_PLACED)
    require_few_unknowns(form)
