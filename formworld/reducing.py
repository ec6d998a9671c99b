"""Short bases for positive tables: what makes it possible to list vectors of skew forms."""

from formworld.tables import combined, dot, unit_rows

# Which three or more of so many basis vectors may make a shorter one together.
TOGETHER = {
    2: (),
    3: ((0, 1, 2),),
    4: ((0, 1, 2), (0, 1, 3), (0, 2, 3), (1, 2, 3), (0, 1, 2, 3)),
    5: (
        (0, 1, 2), (0, 1, 3), (0, 1, 4), (0, 2, 3), (0, 2, 4), (0, 3, 4), (1, 2, 3), (1, 2, 4), (1, 3, 4), (2, 3, 4),
        (0, 1, 2, 3), (0, 1, 2, 4), (0, 1, 3, 4), (0, 2, 3, 4), (1, 2, 3, 4), (0, 1, 2, 3, 4),
    ),
}


def nearest_quotient(number, divisor):
    """The nearest integer to the quotient, for a divisor above 0."""
    return (2 * number + divisor) // (2 * divisor)


def multiple_step(table):
    """The index of a basis vector, that of another one, and how many times this is to be taken away, None for none."""
    for index, row in enumerate(table):
        for other, both in enumerate(row):
            if index != other and 2 * abs(both) > table[other][other]:
                return index, other, nearest_quotient(both, table[other][other])
    return None


def take_away(basis, rows, step):
    """Puts the shorter vector in its place, in the basis and in its table."""
    index, other, many = step
    basis[index] = tuple([left - many * right for left, right in zip(basis[index], basis[other])])
    image = [left - many * right for left, right in zip(rows[index], rows[other])]
    image[index] = image[index] - many * image[other]
    for place, product in enumerate(image):
        rows[place][index] = product
    rows[index] = image


def sign_step(table):
    """The index of a basis vector, and the signs of a shorter sum of basis vectors for its place, None for none.

    The sum of several vectors, with any signs, is not shorter than the longest one unless their products are great.
    """
    for places in TOGETHER[len(table)]:
        lengths = [table[place][place] for place in places]
        sizes = sum([abs(table[place][other]) for place in places for other in places])
        if sizes > 2 * sum(lengths) - max(lengths):
            longest = max([(length, place) for length, place in zip(lengths, places)])[1]
            signs = short_signs(table, places, table[longest][longest])
            if signs is not None:
                return longest, [sign * signs[longest] for sign in signs]
    return None


def short_signs(table, places, bound):
    """Signs for all basis vectors at these places with which their sum is shorter than the bound, None for none.

    The sums are built up, the first sign being a plus, as tuples (length, signs, products with the basis vectors).
    """
    sums = [(0, [0] * len(table), [0] * len(table))]
    for place in places:
        row = table[place]
        longer = []
        for length, signs, image in sums:
            for sign in ((1, -1) if length > 0 else (1,)):
                longer.append((
                    length + row[place] + 2 * sign * image[place], signs[:place] + [sign] + signs[place + 1:],
                    [left + sign * right for left, right in zip(image, row)],
                ))
        sums = longer
    length, signs, _ = min(sums)
    return signs if length < bound else None


def put(basis, rows, step):
    """Puts the sum in its place, in the basis and in its table."""
    index, signs = step
    basis[index] = combined(basis, signs)
    image = list(combined(rows, signs))
    image[index] = dot(signs, image)
    for place, product in enumerate(image):
        rows[place][index] = product
    rows[index] = image


def shorten(basis, rows):
    """Takes multiples away as long as they make a basis vector shorter."""
    step = multiple_step(rows)
    while step is not None:
        take_away(basis, rows, step)
        step = multiple_step(rows)


def short_basis(table):
    """A basis, the shortest vector last, that no multiple and no sum of basis vectors makes shorter, and its table.

    With up to four unknowns its lengths are the least ones that any basis has (Minkowski).
    """
    basis = list(unit_rows(len(table)))
    rows = [list(row) for row in table]
    shorten(basis, rows)
    step = sign_step(rows)
    while step is not None:
        put(basis, rows, step)
        shorten(basis, rows)
        step = sign_step(rows)
    lengths = [(-rows[index][index], index) for index in range(len(basis))]
    order = [index for _, index in sorted(lengths)]
    return [basis[index] for index in order], [tuple([rows[index][other] for other in order]) for index in order]


def vectors_from(basis, vectors):
    """The vectors that have these numbers along the basis, ascending."""
    if basis == list(unit_rows(len(basis))):
        return sorted(vectors)
    columns = list(zip(*basis))
    return sorted([tuple([dot(vector, column) for column in columns]) for vector in vectors])
