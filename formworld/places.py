"""Forms at a place and over fractions."""

from formworld.primes import is_square, next_prime, prime_divisors
from formworld.requirements import require_form, require_place, require_placed
from formworld.signs import is_local_square, sign_at
from formworld.tables import diagonal_of


def places_of(form):
    """The place 0 and all primes that divide twice the measure, ascending."""
    require_form(form)
    require_placed(form)
    return tuple(bad_places(form))


def form_sign(form, place):
    """The form sign at the place."""
    require_form(form)
    require_place(place)
    require_placed(form)
    return diagonal_sign(diagonal_of(form.table), place)


def is_alike_at(form, other, place):
    """Whether the forms are alike at the place."""
    require_form(form)
    require_form(other)
    require_place(place)
    require_placed(form)
    require_placed(other)
    if place == 0 or form.unknowns != other.unknowns:
        return form.signature == other.signature
    return are_alike_at_prime(form, other, place)


def is_alike_over_fractions(form, other):
    """Whether a choice of unknowns with fractions makes the one form into the other."""
    return parting_place(form, other) is None


def parting_place(form, other):
    """The least place at which the forms are not alike, None if there is none."""
    require_form(form)
    require_form(other)
    require_placed(form)
    require_placed(other)
    if form.signature != other.signature:
        return 0
    product = form.measure * other.measure
    if not is_square(product):
        return first_parting_prime(form, other)
    primes = sorted(set(bad_places(form)[1:] + bad_places(other)[1:]))
    for prime in primes:
        if not are_alike_at_prime(form, other, prime):
            return prime
    return None


def first_parting_prime(form, other):
    """A number that is no square is none at some primes, among those too that divide no measure."""
    prime = 2
    while are_alike_at_prime(form, other, prime):
        prime = next_prime(prime)
    return prime


def are_alike_at_prime(form, other, prime):
    """The same for forms of as many unknowns."""
    if not is_local_square(form.measure * other.measure, prime):
        return False
    return diagonal_sign(diagonal_of(form.table), prime) == diagonal_sign(diagonal_of(other.table), prime)


def bad_places(form):
    return [0] + prime_divisors(2 * form.measure)


def diagonal_sign(numbers, place):
    """The product of the signs of all pairs of different numbers."""
    product = 1
    for index, number in enumerate(numbers):
        for other in numbers[:index]:
            product = product * sign_at(number, other, place)
    return product
