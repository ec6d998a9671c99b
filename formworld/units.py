"""Units of discriminants above 0, and the own changes of mixed forms that come of them."""

from math import isqrt

from formworld.checks import MOST_ENTRY, check_number
from formworld.errors import TooGreat
from formworld.requirements import require_form, require_mixed_discriminant, require_mixed_primitive
from formworld.rings import change_around, discriminant_at, main_row, reduced_behind

MOST_EXPONENT = 100


def least_unit(discriminant):
    """The least unit."""
    require_mixed_discriminant(discriminant)
    return unit_of(discriminant)


def least_minus_unit(discriminant):
    """The least minus-unit, None if there is none.

    If there is one, its square is the least unit (t, u): it is (s, u / s) with s s = t - 2.
    """
    require_mixed_discriminant(discriminant)
    first, second = unit_of(discriminant)
    root = isqrt(first - 2)
    if root * root != first - 2 or second % root != 0:
        return None
    return root, second // root


def unit_power(discriminant, many):
    """The power of the least unit."""
    require_mixed_discriminant(discriminant)
    check_number(many, 1, MOST_EXPONENT)
    unit = unit_of(discriminant)
    power = unit
    for _ in range(many - 1):
        power = unit_product(power, unit, discriminant)
    if power[0] > MOST_ENTRY:
        raise TooGreat(power[0])
    return power


def turn(form):
    """The own proper change whose powers, and their opposites, are all of them."""
    require_form(form)
    require_mixed_primitive(form)
    return turn_of(form.coefficients)


def unit_of(discriminant):
    """The way around a ring is the turn of its form or the change back, perhaps with the opposite sign."""
    reduced = reduced_behind(main_row(discriminant), discriminant)
    change = change_around(reduced)
    return abs(change[0][0] + change[1][1]), abs(change[1][0] // reduced[0])


def unit_product(unit, other, discriminant):
    first, second = unit
    other_first, other_second = other
    return (
        (first * other_first + discriminant * second * other_second) // 2,
        (first * other_second + second * other_first) // 2,
    )


def turn_of(row):
    first, both, last = row
    top, bottom = unit_of(discriminant_at(row))
    return (
        ((top - both * bottom) // 2, -last * bottom),
        (first * bottom, (top + both * bottom) // 2),
    )
