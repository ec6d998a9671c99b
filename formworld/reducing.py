"""Short bases for positive tables: what makes it possible to list vectors of skew forms.

A step is a pair: the index of a basis vector, and the numbers along the basis of a shorter one for its place.
"""

from formworld.tables import combined, dot, unit_rows


def nearest_quotient(number, divisor):
    """The nearest integer to the quotient, for a divisor above 0."""
    return (2 * number + divisor) // (2 * divisor)


def multiple_step(table):
    """A step that adds a multiple of one other basis vector, None if there is none."""
    for index, row in enumerate(table):
        for other, both in enumerate(row):
            if index != other and 2 * abs(both) > table[other][other]:
                numbers = [0] * len(table)
                numbers[index] = 1
                numbers[other] = -nearest_quotient(both, table[other][other])
                return index, tuple(numbers)
    return None


def sign_step(table):
    """A step to a sum or difference of several basis vectors, None if there is none.

    Such sums are built up, the first sign being a plus, as tuples (signs, their products with the basis vectors,
    length, index of the longest basis vector in it).
    """
    sums = []
    for index, row in enumerate(table):
        longer = [((0,) * index + (1,), row, row[index], index)]
        for signs, image, length, longest in sums:
            top = index if row[index] > table[longest][longest] else longest
            longer.append((signs + (0,), image, length, longest))
            for sign in (1, -1):
                total = length + row[index] + 2 * sign * image[index]
                if total < table[top][top]:
                    return step_to(signs + (sign,), top, len(table))
                longer.append((signs + (sign,), [one + sign * by for one, by in zip(image, row)], total, top))
        sums = longer
    return None


def step_to(signs, index, many):
    """The step to this sum or its opposite, in which the vector that goes has a plus."""
    return index, tuple([sign * signs[index] for sign in signs]) + (0,) * (many - len(signs))


def put(basis, rows, step):
    """Puts the new vector in its place, in the basis and in its table."""
    index, numbers = step
    basis[index] = combined(basis, numbers)
    image = combined(rows, numbers)
    for place, product in enumerate(image):
        rows[place][index] = product
    rows[index] = list(image)
    rows[index][index] = dot(numbers, image)


def short_basis(table):
    """A basis, the shortest vector last, that no multiple and no sum of basis vectors makes shorter, and its table.

    With up to four unknowns its lengths are the least ones that any basis has (Minkowski).
    """
    basis = list(unit_rows(len(table)))
    rows = [list(row) for row in table]
    step = multiple_step(rows) or sign_step(rows)
    while step is not None:
        put(basis, rows, step)
        step = multiple_step(rows) or sign_step(rows)
    lengths = [(-rows[index][index], index) for index in range(len(basis))]
    order = [index for _, index in sorted(lengths)]
    return [basis[index] for index in order], [tuple([rows[index][other] for other in order]) for index in order]


def vectors_from(basis, vectors):
    """The vectors that have these numbers along the basis, ascending."""
    if basis == list(unit_rows(len(basis))):
        return sorted(vectors)
    columns = list(zip(*basis))
    return sorted([tuple([dot(vector, column) for column in columns]) for vector in vectors])
