"""The short vectors of positive forms."""

from formworld.checks import check_number
from formworld.fibres import vectors_of_length
from formworld.listing import vectors_within
from formworld.reducing import short_basis, vectors_from
from formworld.requirements import require_form, require_positive_small
from formworld.tables import product_at

MOST_BOUND = 200


def vectors_up_to(form, bound):
    """All vectors other than that of noughts with a value up to the bound, ascending."""
    require_form(form)
    check_number(bound, 0, MOST_BOUND)
    require_positive_small(form)
    basis, table = short_basis(form.table)
    vectors = vectors_from(basis, vectors_within(table, 2 * bound))
    nought = (0,) * form.unknowns
    return tuple([vector for vector in vectors if vector != nought])


def least_value(form):
    """The least value above 0."""
    require_form(form)
    require_positive_small(form)
    return least_length(short_basis(form.table)[1]) // 2


def least_vectors(form):
    """All vectors that have the least value above 0, ascending."""
    require_form(form)
    require_positive_small(form)
    basis, table = short_basis(form.table)
    return tuple(vectors_from(basis, vectors_of_length(table, least_length(table))))


def least_length(table):
    """The least length above 0; none is above that of the last basis vector."""
    lengths = [product_at(table, vector, vector) for vector in vectors_within(table, table[-1][-1])]
    return min([length for length in lengths if length > 0])
