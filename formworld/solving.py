"""Which numbers binary forms give, and all writings of them, in families if there are infinitely many."""

from math import isqrt

from formworld.checks import check_number, check_other_than_nought, check_vector
from formworld.errors import InvalidVector
from formworld.limits import MOST_NUMBER
from formworld.primes import is_square
from formworld.requirements import require_binary, require_form, require_mixed_primitive
from formworld.rings import change_along, discriminant_at, leading_of, rows_giving
from formworld.tables import dot, inverse_change
from formworld.units import turn_of

MOST_BOX = 1000


def is_solved(form, number):
    """Whether the form gives the number."""
    require_form(form)
    check_other_than_nought(number, MOST_NUMBER)
    require_binary(form)
    return rows_alike(form.coefficients, number) != []


def solutions_in_box(form, number, size):
    """All solutions both numbers of which are from -size to size, ascending."""
    require_form(form)
    check_other_than_nought(number, MOST_NUMBER)
    check_number(size, 0, MOST_BOX)
    require_binary(form)
    vectors = vectors_in_rows(form.coefficients, number, size)
    return tuple(sorted([vector for vector in vectors if abs(vector[0]) <= size]))


def families(form, number):
    """The least members of all families, ascending."""
    require_form(form)
    check_other_than_nought(number, MOST_NUMBER)
    require_mixed_primitive(form)
    row = form.coefficients
    leading = leading_of(row)
    steps = steps_of(row)
    members = []
    for divisor, other in rows_alike(row, number):
        change = change_along(row, other, leading)
        members.append(least_of(steps, (divisor * change[0][0], divisor * change[1][0])))
    return tuple(sorted(members))


def least_member(form, vector):
    """The least member of the family of this vector."""
    require_form(form)
    require_solution(form, vector)
    require_mixed_primitive(form)
    return least_of(steps_of(form.coefficients), vector)


def is_one_family(form, vector, other):
    """Whether both vectors have the same value and are of one family."""
    require_form(form)
    require_solution(form, vector)
    require_solution(form, other)
    require_mixed_primitive(form)
    steps = steps_of(form.coefficients)
    return least_of(steps, vector) == least_of(steps, other)


def require_solution(form, vector):
    check_vector(vector, form.unknowns)
    if vector == (0,) * form.unknowns:
        raise InvalidVector(None)


def rows_alike(row, number):
    """Pairs (divisor, form), one for each family of solutions with this greatest common divisor.

    The form is properly alike to this one, and its first coefficient is what is left of the number.
    """
    discriminant = discriminant_at(row)
    if discriminant < 0 and number < 0:
        return []
    leading = leading_of(row)
    pairs = []
    for divisor in range(1, isqrt(abs(number)) + 1):
        if number % (divisor * divisor) == 0:
            others = rows_giving(discriminant, number // (divisor * divisor))
            pairs.extend([(divisor, other) for other in others if leading_of(other) == leading])
    return pairs


def vectors_in_rows(row, number, size):
    """All solutions with a second number up to this size: the first ones are the roots of quadratic equations."""
    discriminant = discriminant_at(row)
    vectors = []
    for second in range(-size, size + 1):
        square = discriminant * second * second + 4 * row[0] * number
        if is_square(square):
            root = isqrt(square)
            tops = [sign * root - row[1] * second for sign in ((1, -1) if root > 0 else (1,))]
            vectors.extend([(top // (2 * row[0]), second) for top in tops if top % (2 * row[0]) == 0])
    return vectors


def steps_of(row):
    """The turn, and the change that leads back."""
    step = turn_of(row)
    return step, inverse_change(step)


def rank(vector):
    """Of two members of a family that with the lesser rank is nearer to the least one."""
    return abs(vector[1]), abs(vector[0]), -vector[0], -vector[1]


def least_of(steps, vector):
    """The least member of a family: from one member to the next, as long as the second number becomes less in size.

    Along a family it falls to its least size and then grows, so nothing less lies behind a place where it stops.
    """
    best = None
    nearest = vector
    while best != nearest:
        best = nearest
        members = [best] + [tuple([dot(row, best) for row in step]) for step in steps]
        opposites = [(-member[0], -member[1]) for member in members]
        nearest = min(members + opposites, key=rank)
    return best
