"""Genera of binary forms: what the marks of a discriminant tell of the values."""

from formworld.composing import require_composable
from formworld.forms import Form
from formworld.grouping import class_rows
from formworld.primes import is_square_rest, prime_divisors
from formworld.requirements import require_discriminant, require_form, require_primitive_binary
from formworld.rings import discriminant_at

# Marks for 2, by the rest of -D / 4 by 8.
EVEN_MARKS = ((-4, 8), (-4,), (-8,), (), (-4,), (-4,), (8,), ())
# The rests of odd numbers by 8 of which these marks tell 1.
TOLD_RESTS = {-4: (1, 5), 8: (1, 7), -8: (1, 3)}


def marks(discriminant):
    """The marks, ascending."""
    require_discriminant(discriminant)
    return tuple(marks_of(discriminant))


def genus_of(form):
    """What the marks tell of the values of the form."""
    require_form(form)
    require_primitive_binary(form)
    return genus_row(form.coefficients)


def genera(discriminant):
    """The leading forms of the classes of each genus."""
    require_discriminant(discriminant)
    groups = {}
    for row in class_rows(discriminant):
        genus = genus_row(row)
        if genus not in groups:
            groups[genus] = []
        groups[genus].append(Form(row))
    return tuple([tuple(group) for group in groups.values()])


def count_genera(discriminant):
    """How many genera there are: half as many as there are ways to tell 1 or -1 for each mark (Gauss)."""
    require_discriminant(discriminant)
    return 1 << (len(marks_of(discriminant)) - 1)


def is_of_genus(form, other):
    """Whether both forms have one genus."""
    require_composable(form, other)
    return genus_row(form.coefficients) == genus_row(other.coefficients)


def marks_of(discriminant):
    found = [prime for prime in prime_divisors(discriminant) if prime > 2]
    if discriminant % 2 == 0:
        found.extend(EVEN_MARKS[-discriminant // 4 % 8])
    return sorted(found)


def genus_row(row):
    return tuple([told_by(mark, value_free_of(row, mark)) for mark in marks_of(discriminant_at(row))])


def value_free_of(row, mark):
    """A value of a primitive form that has no common divisor with the mark.

    The mark tells the same of all of them, so it does not matter that another one may divide this value. A prime that
    divides the first and the last coefficient, and the discriminant, would divide the middle one, too.
    """
    prime = mark if mark % 2 == 1 else 2
    return row[0] if row[0] % prime != 0 else row[2]


def told_by(mark, number):
    if mark % 2 == 1:
        told = is_square_rest(number, mark)
    else:
        told = number % 8 in TOLD_RESTS[mark]
    return 1 if told else -1
