"""Which forms give nought, or a number, at a place and over fractions."""

from formworld.checks import check_other_than_nought
from formworld.cones import nought_of_squares
from formworld.errors import TooGreat
from formworld.limits import MOST_NUMBER
from formworld.places import bad_places, diagonal_sign
from formworld.primes import is_square, next_prime, prime_divisors
from formworld.requirements import require_form, require_place, require_placed
from formworld.signs import is_local_square, sign_at
from formworld.tables import diagonal_of, product_of


def gives_nought_at(form, place):
    """Whether the form gives nought at the place."""
    require_form(form)
    require_place(place)
    require_placed(form)
    return gives_nought_there(diagonal_of(form.table), place)


def gives_nought(form):
    """Whether the form gives nought over fractions."""
    return barring_place(form) is None


def barring_place(form):
    """The least place at which the form does not give nought, None if there is none."""
    require_form(form)
    require_placed(form)
    numbers = diagonal_of(form.table)
    if form.unknowns == 2:
        return place_of_no_square(numbers)
    return first_bar(numbers, bad_places(form))


def gives_at(form, number, place):
    """Whether the form gives the number at the place."""
    require_form(form)
    check_other_than_nought(number, MOST_NUMBER)
    require_place(place)
    require_placed(form)
    return gives_nought_there(diagonal_of(form.table) + [-number], place)


def gives_over_fractions(form, number):
    """Whether the form gives the number over fractions."""
    return barred_number(form, number) is None


def barred_number(form, number):
    """The least place at which the form does not give the number, None if there is none."""
    require_form(form)
    check_other_than_nought(number, MOST_NUMBER)
    require_placed(form)
    places = sorted(set(bad_places(form) + prime_divisors(number)))
    return first_bar(diagonal_of(form.table) + [-number], places)


def nought_vector(form):
    """Any vector other than that of noughts, without a common divisor above 1, that has the value 0, None if none has.

    The form must be a sum of two or three squares, each with a coefficient.
    """
    require_form(form)
    require_placed(form)
    require_squares_alone(form)
    if not gives_nought(form):
        return None
    return nought_of_squares([row[index] // 2 for index, row in enumerate(form.table)])


def require_squares_alone(form):
    if form.unknowns > 3:
        raise TooGreat(form.unknowns)
    for row, numbers in enumerate(form.table):
        for number in numbers[row + 1:]:
            if number != 0:
                raise TooGreat(number)


def gives_nought_there(numbers, place):
    """Whether the sum of squares with these coefficients gives nought at the place."""
    if place == 0:
        return min(numbers) < 0 < max(numbers)
    product = product_of(numbers)
    if len(numbers) == 2:
        return is_local_square(-product, place)
    if len(numbers) == 3:
        return diagonal_sign(numbers, place) == sign_at(-1, -product, place)
    if len(numbers) == 4:
        return not is_local_square(product, place) or diagonal_sign(numbers, place) == sign_at(-1, -1, place)
    return True


def first_bar(numbers, places):
    """The first one of the places at which nought is not given, None if there is none."""
    for place in places:
        if not gives_nought_there(numbers, place):
            return place
    return None


def place_of_no_square(numbers):
    """Two squares: an integer that is no square is none at some place, which need not divide the measure."""
    if is_square(-product_of(numbers)):
        return None
    place = 0
    while gives_nought_there(numbers, place):
        place = next_prime(place)
    return place
