"""Forms at one prime, over fractions whose bottoms it does not divide: there each form is a sum of small parts.

A part (a,) is a x x in one unknown. A part (a, b, c) is a x x + b x y + c y y in two; it stands at the prime 2 alone,
and 2 divides b less often than twice a and twice c. The change that leads from the form to the sum has a determinant
that the prime does not divide, so by a power of the prime both have the same rests equally often.
"""

from formworld.primes import split_power
from formworld.tables import table_between, unit_rows


def parts_at(table, prime):
    """The parts of the form with this table; they are integers."""
    parts = []
    rows = table
    while rows:
        least = least_entry(rows, prime)
        if least is None:
            return parts + [(0,)] * len(rows)
        row, column = least
        if row == column:
            parts.append((rows[row][row] // 2,))
            rows = without_one(rows, row, prime)
        elif prime == 2:
            parts.append((rows[row][row] // 2, rows[row][column], rows[column][column] // 2))
            rows = without_two(rows, row, column)
        else:
            rows = with_sum(rows, row, column)
    return parts


def least_entry(rows, prime):
    """The row and the column of an entry that the prime divides least often, on the diagonal if some is there.

    None if there are noughts alone.
    """
    found = [
        (split_power(number, prime)[0], row != column, row, column)
        for row, numbers in enumerate(rows) for column, number in enumerate(numbers) if row <= column and number != 0
    ]
    return min(found)[2:] if found else None


def without_one(rows, index, prime):
    """What is left besides one unknown: the other basis vectors are made to have no products with its own."""
    pivot = rows[index][index]
    unit = split_power(pivot, prime)[1]
    vectors = []
    for place in range(len(rows)):
        if place != index:
            vector = [0] * len(rows)
            vector[place] = unit
            vector[index] = -rows[place][index] * unit // pivot
            vectors.append(vector)
    return table_between(rows, vectors)


def without_two(rows, first, second):
    """The same for two unknowns at the prime 2."""
    above, both, below = rows[first][first], rows[first][second], rows[second][second]
    measure = above * below - both * both
    unit = split_power(measure, 2)[1]
    vectors = []
    for place in range(len(rows)):
        if place not in (first, second):
            left, right = rows[place][first], rows[place][second]
            vector = [0] * len(rows)
            vector[place] = unit
            vector[first] = -(below * left - both * right) * unit // measure
            vector[second] = -(above * right - both * left) * unit // measure
            vectors.append(vector)
    return table_between(rows, vectors)


def with_sum(rows, index, other):
    """The table with the sum of two basis vectors in the place of the one.

    An odd prime divides neither twice their product more often than it, so the square of the sum is as good as it.
    """
    vectors = [list(unit) for unit in unit_rows(len(rows))]
    vectors[index][other] = 1
    return table_between(rows, vectors)
