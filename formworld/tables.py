"""Arithmetic with vectors, symmetric tables and changes, without any checks.

What the properties of forms call builds new lists instead of changing old ones.
"""

UNKNOWNS = {3: 2, 6: 3, 10: 4, 15: 5}
# For so many coefficients: for each row of the table, where those for its unknown and each of all unknowns stand.
PLACES = {
    3: ((0, 1), (1, 2)),
    6: ((0, 1, 2), (1, 3, 4), (2, 4, 5)),
    10: ((0, 1, 2, 3), (1, 4, 5, 6), (2, 5, 7, 8), (3, 6, 8, 9)),
    15: ((0, 1, 2, 3, 4), (1, 5, 6, 7, 8), (2, 6, 9, 10, 11), (3, 7, 10, 12, 13), (4, 8, 11, 13, 14)),
}


def dot(row, other):
    """The sum of the products of numbers that stand at one place; a longer row is cut."""
    return sum([left * right for left, right in zip(row, other)])


def product_of(numbers):
    product = 1
    for number in numbers:
        product = product * number
    return product


def table_of(coefficients):
    return tuple([
        tuple([coefficients[place] * (2 if place == places[index] else 1) for place in places])
        for index, places in enumerate(PLACES[len(coefficients)])
    ])


def coefficients_of(table):
    many = len(table)
    return tuple([
        table[row][row] // 2 if row == column else table[row][column]
        for row in range(many) for column in range(row, many)
    ])


def product_at(table, vector, other):
    return dot(vector, [dot(row, other) for row in table])


def table_between(table, vectors):
    """The table of the products of these vectors with one another."""
    images = [[dot(row, vector) for row in table] for vector in vectors]
    return tuple([tuple([dot(vector, image) for image in images]) for vector in vectors])


def changed_coefficients(table, change):
    """Those of the form that has at each vector the value that this one has where the change leads it."""
    return coefficients_of(table_between(table, columns_of(change)))


def columns_of(rows):
    return tuple([tuple([row[index] for row in rows]) for index in range(len(rows))])


def unit_rows(many):
    return tuple([tuple([1 if row == column else 0 for column in range(many)]) for row in range(many)])


def combined(vectors, numbers):
    """The sum of the vectors, each times its number."""
    return tuple([dot(numbers, column) for column in zip(*vectors)])


def cofactors(rows):
    """The numbers whose products with a further row, in front of these, add up to the determinant."""
    many = len(rows) + 1
    return [
        (1 - index % 2 * 2) * determinant([row[:index] + row[index + 1:] for row in rows]) for index in range(many)
    ]


def determinant(rows):
    if not rows:
        return 1
    if len(rows) == 1:
        return rows[0][0]
    if len(rows) == 2:
        return rows[0][0] * rows[1][1] - rows[0][1] * rows[1][0]
    if len(rows) == 3:
        (a, b, c), (d, e, f), (g, h, i) = rows
        return a * (e * i - f * h) + b * (f * g - d * i) + c * (d * h - e * g)
    return dot(rows[0], cofactors(rows[1:]))


def inverse_change(change):
    """The change that leads back; the determinant is 1 or -1, so it divides all."""
    size = determinant(change)
    columns = [
        [size * (1 - index % 2 * 2) * number for number in cofactors(change[:index] + change[index + 1:])]
        for index in range(len(change))
    ]
    return columns_of(columns)


def joined_changes(change, other):
    """The change that leads where the other one, and then this one, lead."""
    columns = columns_of(other)
    return tuple([tuple([dot(row, column) for column in columns]) for row in change])


def first_square(rows):
    """The index of an unknown whose square is there, None if there is none."""
    for index, row in enumerate(rows):
        if row[index] != 0:
            return index
    return None


def with_square(rows):
    """The table after one unknown is added to another one so that a square appears, None for noughts alone."""
    for index, row in enumerate(rows):
        for other, number in enumerate(row):
            if number != 0:
                change = [list(unit) for unit in unit_rows(len(rows))]
                change[index] = [1 if place in (index, other) else 0 for place in range(len(rows))]
                return table_between(rows, change)
    return None


def minors_of(table):
    """Determinants of 0, 1, 2 .. rows, along some choice of unknowns, as long as they are not 0.

    The divisions leave no rest: each entry is itself such a determinant (Bareiss).
    """
    minors = [1]
    rows = table
    while rows:
        square = first_square(rows)
        if square is None:
            rows = with_square(rows)
            if rows is None:
                return minors
            square = first_square(rows)
        top = rows[square]
        pivot = top[square]
        others = [index for index in range(len(rows)) if index != square]
        below = [rows[index] for index in others]
        rows = [
            [(pivot * row[column] - row[square] * top[column]) // minors[-1] for column in others] for row in below
        ]
        minors.append(pivot)
    return minors


def diagonal_of(table):
    """Numbers a1, a2 .. for which the form becomes a1 y1 y1 + a2 y2 y2 .. over fractions, if it is not flat.

    The table counts each square twice; a quotient of two minors is their product but for a square.
    """
    minors = minors_of(table)
    return [2 * before * behind for before, behind in zip(minors, minors[1:])]
