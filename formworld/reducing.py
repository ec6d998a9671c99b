"""Short bases for positive tables: what makes it possible to list vectors of skew forms."""

from formworld.tables import combined, dot, product_at, table_between, unit_rows


def nearest_quotient(number, divisor):
    """The nearest integer to the quotient, for a divisor above 0."""
    return (2 * number + divisor) // (2 * divisor)


def multiple_step(table):
    """A basis vector that becomes shorter by a multiple of another one, and the new one, None if there is none."""
    units = unit_rows(len(table))
    for index, row in enumerate(table):
        for other, both in enumerate(row):
            many = 0 if index == other else -nearest_quotient(both, table[other][other])
            if many * (2 * both + many * table[other][other]) < 0:
                return index, combined((units[index], units[other]), (1, many))
    return None


def sign_vectors(many):
    """All vectors of the numbers -1, 0 and 1."""
    vectors = [()]
    for _ in range(many):
        vectors = [vector + (number,) for vector in vectors for number in (-1, 0, 1)]
    return vectors


def sign_step(table):
    """Likewise for sums and differences of several basis vectors."""
    for vector in sign_vectors(len(table)):
        length = product_at(table, vector, vector)
        for index, number in enumerate(vector):
            if number == 1 and length < table[index][index]:
                return index, vector
    return None


def short_basis(table):
    """A basis, the shortest vector last, that no multiple and no sum of basis vectors makes shorter.

    With up to four unknowns its lengths are the least ones that any basis has (Minkowski).
    """
    basis = list(unit_rows(len(table)))
    current = table
    step = multiple_step(current) or sign_step(current)
    while step is not None:
        index, numbers = step
        basis[index] = combined(basis, numbers)
        current = table_between(table, basis)
        step = multiple_step(current) or sign_step(current)
    lengths = [(-current[index][index], index) for index in range(len(basis))]
    return [basis[index] for _, index in sorted(lengths)]


def vectors_from(basis, vectors):
    """The vectors that have these numbers along the basis, ascending."""
    if basis == list(unit_rows(len(basis))):
        return sorted(vectors)
    columns = list(zip(*basis))
    return sorted([tuple([dot(vector, column) for column in columns]) for vector in vectors])
