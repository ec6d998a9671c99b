"""Which numbers positive forms give, and how often."""

from formworld.checks import check_number
from formworld.fibres import count_of_length, some_vector, vectors_of_length
from formworld.limits import MOST_NUMBER
from formworld.looking import given_numbers
from formworld.primes import prime_divisors
from formworld.reducing import short_basis, vectors_from
from formworld.requirements import require_form, require_positive_small
from formworld.tables import combined

# A positive form that gives these numbers gives all, and of a form that does not the least number that it misses is one
# of these (Bhargava, Hanke); if it is even between, so it is with the first ones (Conway, Schneeberger, Bhargava).
TELLING_EVEN = (1, 2, 3, 5, 6, 7, 10, 14, 15)
TELLING = (
    1, 2, 3, 5, 6, 7, 10, 13, 14, 15, 17, 19, 21, 22, 23, 26, 29, 30, 31, 34, 35, 37, 42, 58, 93, 110, 145, 203, 290,
)


def gives(form, number):
    """Whether the form gives the number."""
    require_asked(form, number)
    return some_vector(short_table(form), 2 * number) is not None


def writings(form, number):
    """All vectors at which the value is the number, ascending."""
    require_asked(form, number)
    basis, table = short_basis(form.table)
    return tuple(vectors_from(basis, vectors_of_length(table, 2 * number)))


def some_writing(form, number):
    """Any vector at which the value is the number, None if there is none."""
    require_asked(form, number)
    basis, table = short_basis(form.table)
    vector = some_vector(table, 2 * number)
    return None if vector is None else combined(basis, vector)


def count_writings(form, number):
    """How many writings of the number there are."""
    require_asked(form, number)
    return count_of_length(short_table(form), 2 * number)


def count_proper(form, number):
    """How many of them have numbers without a common divisor above 1.

    Those with a common divisor are left out for each prime, those with two put back for both, and so on (Moebius).
    """
    require_asked(form, number)
    table = short_table(form)
    return sum([
        sign * count_of_length(table, 2 * number // (divisor * divisor))
        for divisor, sign in signed_divisors(number) if number % (divisor * divisor) == 0
    ])


def missed(form, most):
    """The integers from 1 to `most` that the form does not give, ascending."""
    require_asked(form, most)
    return tuple(missed_numbers(short_table(form), most))


def gives_all(form):
    """Whether the form gives each integer from 1 on."""
    return least_missed(form) is None


def least_missed(form):
    """The least integer from 1 on that the form does not give, None if it gives all."""
    require_form(form)
    require_positive_small(form)
    return first_missed(form)


def first_missed(form):
    """The same for positive forms, small or not."""
    table = short_table(form)
    numbers = missed_numbers(table, TELLING_EVEN[-1])
    if not numbers and not form.is_even_between:
        numbers = missed_numbers(table, TELLING[-1])
    return numbers[0] if numbers else None


def telling_numbers(form):
    """Those that a positive form has to give if it is to give all numbers."""
    return TELLING_EVEN if form.is_even_between else TELLING


def require_asked(form, number):
    require_form(form)
    check_number(number, 1, MOST_NUMBER)
    require_positive_small(form)


def short_table(form):
    return short_basis(form.table)[1]


def missed_numbers(table, most):
    """The numbers up to `most` that are no values, ascending."""
    numbers = list(range(1, most + 1))
    given = given_numbers(table, numbers)
    return [number for number in numbers if number not in given]


def signed_divisors(number):
    """Products of different primes that divide the number, with 1 for an even number of primes, otherwise -1."""
    parts = [(1, 1)]
    for prime in prime_divisors(number):
        parts = parts + [(divisor * prime, -sign) for divisor, sign in parts]
    return parts
