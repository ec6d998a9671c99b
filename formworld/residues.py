"""The rests that values of forms leave, and the numbers that forms meet at all places."""

from formworld.checks import check_number
from formworld.errors import TooGreat
from formworld.limits import MOST_NUMBER
from formworld.places import bad_places
from formworld.primes import is_square_rest, prime_divisors, split_power
from formworld.requirements import require_form, require_place, require_placed
from formworld.rests import count_leaving, prime_powers, rests_mask
from formworld.splitting import parts_at
from formworld.tables import product_of

MOST_MODULUS = 1000
MOST_VECTORS = 10 ** 6


def count_modulo(form, number, modulus):
    """How many vectors of rests give a value with the same rest as the number."""
    require_form(form)
    check_number(number, -MOST_NUMBER, MOST_NUMBER)
    require_modulus(form, modulus)
    table = form.table
    return product_of([count_leaving(table, number, prime, power) for prime, power in prime_powers(modulus)])


def given_modulo(form, modulus):
    """The rests that values leave, ascending."""
    require_form(form)
    require_modulus(form, modulus)
    table = form.table
    rests = list(range(modulus))
    for prime, power in prime_powers(modulus):
        mask = rests_mask(table, prime, power)
        rests = [rest for rest in rests if mask >> (rest % power) & 1 == 1]
    return tuple(rests)


def is_met_at(form, number, place):
    """Whether the form meets the number at the place."""
    require_form(form)
    check_number(number, -MOST_NUMBER, MOST_NUMBER)
    require_place(place)
    require_placed(form)
    return is_met_there(form, number, place)


def is_met(form, number):
    """Whether the form meets the number everywhere."""
    return unmet_place(form, number) is None


def unmet_place(form, number):
    """The least place at which the form does not meet the number, None if there is none.

    A prime that divides neither twice the measure nor the number bars none: squares in two unknowns meet it there.
    """
    require_form(form)
    check_number(number, -MOST_NUMBER, MOST_NUMBER)
    require_placed(form)
    if number == 0:
        return None
    for place in sorted(set(bad_places(form) + prime_divisors(number))):
        if not is_met_there(form, number, place):
            return place
    return None


def require_modulus(form, modulus):
    check_number(modulus, 1, MOST_MODULUS)
    vectors = product_of([modulus] * form.unknowns)
    if vectors > MOST_VECTORS:
        raise TooGreat(vectors)


def is_met_there(form, number, place):
    """The same at what surely is a place.

    A value that leaves the rest of the number by a power of the prime that is great enough is the number times a
    square there, so the number itself is met, too.
    """
    if number == 0:
        return True
    if place == 0:
        plus, minus = form.signature
        return plus > 0 if number > 0 else minus > 0
    if place > 2:
        return is_met_by_parts(parts_at(form.table, place), number, place)
    modulus = 8 * (number // split_power(number, 2)[1])
    return rests_mask(form.table, 2, modulus) >> (number % modulus) & 1 == 1


def is_met_by_parts(parts, number, prime):
    """Whether a sum of squares with coefficients meets a number other than 0 at an odd prime.

    The coefficients that the prime divides least often decide. If the number is divided as often, two of them meet it
    by any units, one by units of the right kind. If it is divided more often, it is met if they give nought by the
    prime; otherwise their unknowns are divided by the prime, and so the coefficients become greater.
    """
    power, unit = split_power(number, prime)
    pairs = [split_power(part[0], prime) for part in parts]
    least = min(pairs)[0]
    while least < power:
        units = [left for exponent, left in pairs if exponent == least]
        if len(units) > 2 or (len(units) == 2 and is_square_rest(-units[0] * units[1], prime)):
            return True
        pairs = [(exponent + 2 if exponent == least else exponent, left) for exponent, left in pairs]
        least = min(pairs)[0]
    units = [left for exponent, left in pairs if exponent == power]
    return len(units) > 1 or (len(units) == 1 and is_square_rest(units[0] * unit, prime))
