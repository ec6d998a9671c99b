"""Answers as claims for the checker, with certificates."""

from formworld.alike import change_between
from formworld.binary import proper_change
from formworld.composing import composed, composing_tables
from formworld.giving import least_missed, some_writing, telling_numbers
from formworld.noughts import barring_place, nought_vector
from formworld.places import parting_place
from formworld.residues import unmet_place
from formworld.solving import families
from formworld.units import least_unit


def certify_number(form, number):
    """That the form gives the number, or misses it."""
    vector = some_writing(form, number)
    if vector is None:
        return ("misses", str(form), number), ()
    return ("gives", str(form), number), vector


def certify_all(form):
    """That the form gives all numbers, or not."""
    number = least_missed(form)
    if number is not None:
        return ("not all", str(form)), number
    return ("all", str(form)), tuple([some_writing(form, number) for number in telling_numbers(form)])


def certify_alike(form, other):
    """That the forms are alike, or not."""
    change = change_between(form, other)
    if change is None:
        return ("unlike", str(form), str(other)), ()
    return ("alike", str(form), str(other)), change


def certify_proper(form, other):
    """That the forms are properly alike, None if they are not."""
    change = proper_change(form, other)
    return None if change is None else (("properly alike", str(form), str(other)), change)


def certify_part(form, other):
    """That the forms part at the least place at which they do, None if there is none."""
    place = parting_place(form, other)
    return None if place is None else (("part", str(form), str(other), place), ())


def certify_nought(form):
    """That the form gives nought, or not at the least place at which it does not."""
    vector = nought_vector(form)
    if vector is None:
        return ("no nought", str(form), barring_place(form)), ()
    return ("nought", str(form)), vector


def certify_product(form, other):
    """That the leading form is one of the product of both classes."""
    claim = ("product", str(form), str(other), str(composed(form, other)))
    return claim, composing_tables(form, other)


def certify_unit(discriminant):
    """That the least unit is the least one."""
    first, second = least_unit(discriminant)
    return ("unit", discriminant, first, second), ()


def certify_solved(form, number):
    """That the form gives the number, or not."""
    members = families(form, number)
    if not members:
        return ("unsolved", str(form), number), ()
    return ("solved", str(form), number), members[0]


def certify_barred(form, number):
    """That the form does not meet the number at the least place at which it does not, None if there is none."""
    place = unmet_place(form, number)
    return None if place is None else (("barred", str(form), number, place), ())
