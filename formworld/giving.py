"""Which numbers positive forms give, and how often."""

from formworld.checks import check_number
from formworld.fibres import count_of_length, lengths_mask, vectors_of_length
from formworld.limits import MOST_NUMBER
from formworld.reducing import short_basis, vectors_from
from formworld.requirements import require_form, require_positive_small
from formworld.tables import table_between

# A positive form that gives all numbers up to this one gives all (Bhargava, Hanke).
LAST_TOLD = 290


def gives(form, number):
    """Whether the form gives the number."""
    require_asked(form, number)
    return is_given(lengths_mask(short_table(form), 2 * number), number)


def writings(form, number):
    """All vectors at which the value is the number, ascending."""
    require_asked(form, number)
    basis = short_basis(form.table)
    return tuple(vectors_from(basis, vectors_of_length(table_between(form.table, basis), 2 * number)))


def count_writings(form, number):
    """How many writings of the number there are."""
    require_asked(form, number)
    return count_of_length(short_table(form), 2 * number)


def count_proper(form, number):
    """How many of them have numbers without a common divisor above 1."""
    require_asked(form, number)
    return proper_count(short_table(form), number)


def missed(form, most):
    """The integers from 1 to `most` that the form does not give, ascending."""
    require_asked(form, most)
    return tuple(missed_numbers(form, most))


def gives_all(form):
    """Whether the form gives each integer from 1 on."""
    require_form(form)
    require_positive_small(form)
    return missed_numbers(form, LAST_TOLD) == []


def least_missed(form):
    """The least integer from 1 on that the form does not give, None if it gives all."""
    require_form(form)
    require_positive_small(form)
    numbers = missed_numbers(form, LAST_TOLD)
    return numbers[0] if numbers else None


def require_asked(form, number):
    require_form(form)
    check_number(number, 1, MOST_NUMBER)
    require_positive_small(form)


def short_table(form):
    return table_between(form.table, short_basis(form.table))


def is_given(mask, number):
    return mask >> (2 * number) & 1 == 1


def missed_numbers(form, most):
    mask = lengths_mask(short_table(form), 2 * most)
    return [number for number in range(1, most + 1) if not is_given(mask, number)]


def proper_count(table, number):
    """A writing whose numbers have the greatest common divisor d is d times a proper one of number / (d d)."""
    count = count_of_length(table, 2 * number)
    divisor = 2
    while divisor * divisor <= number:
        if number % (divisor * divisor) == 0:
            count = count - proper_count(table, number // (divisor * divisor))
        divisor = divisor + 1
    return count
