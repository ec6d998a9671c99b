"""Binary forms as tuples (a, b, c): reduced forms, the rings in which they follow one another, and changes to them.

A path is a tuple (form, left, right): a form, and the two columns of a proper change that has led to it.
"""

from math import isqrt

from formworld.tables import columns_of, inverse_change, joined_changes


def discriminant_at(row):
    first, both, second = row
    return both * both - 4 * first * second


def main_row(discriminant):
    """The form of the main class that the document names."""
    both = discriminant % 2
    return (1, both, (both - discriminant) // 4)


def is_reduced_row(row, discriminant):
    first, both, second = row
    if discriminant < 0:
        return -first < both <= first <= second and (both >= 0 or first < second)
    root = isqrt(discriminant)
    return 0 < both <= root < 2 * abs(first) + both and 2 * abs(first) - both <= root


def middle_behind(row, discriminant):
    """The middle coefficient of the form behind (a, b, c): it leaves the rest of -b by 2 c.

    Of those that do, the document names the one for reduced forms. For others it is the one of least size if c is
    great, so that the coefficients become small first.
    """
    size = abs(row[2])
    root = isqrt(max(discriminant, 0))
    top = root if size <= root else size
    return top - (top + row[1]) % (2 * size)


def row_behind(row, discriminant):
    middle = middle_behind(row, discriminant)
    return (row[2], middle, (middle * middle - discriminant) // (4 * row[2]))


def path_behind(path, discriminant):
    """The next form on the path; the change ((0, -1), (1, k)) leads there."""
    row, left, right = path
    behind = row_behind(row, discriminant)
    many = (row[1] + behind[1]) // (2 * row[2])
    return behind, right, (many * right[0] - left[0], many * right[1] - left[1])


def reduced_behind(row, discriminant):
    """The first reduced form on the way from this one."""
    while not is_reduced_row(row, discriminant):
        row = row_behind(row, discriminant)
    return row


def ring_of(row):
    """All reduced forms of the class, as they follow one another, the leading one first."""
    discriminant = discriminant_at(row)
    start = reduced_behind(row, discriminant)
    if discriminant < 0:
        return [start]
    rows = [start]
    behind = row_behind(start, discriminant)
    while behind != start:
        rows.append(behind)
        behind = row_behind(behind, discriminant)
    at = rows.index(min(rows))
    return rows[at:] + rows[:at]


def leading_of(row):
    return ring_of(row)[0]


def change_to(row, leading):
    """A proper change that makes the form into the leading one of its class."""
    discriminant = discriminant_at(row)
    path = (row, (1, 0), (0, 1))
    while path[0] != leading:
        path = path_behind(path, discriminant)
    return columns_of(path[1:])


def change_along(row, other, leading):
    """A proper change that makes the one form into the other, both of the class of this leading one."""
    return joined_changes(change_to(row, leading), inverse_change(change_to(other, leading)))


def change_around(reduced):
    """The own proper change that comes of the way from a mixed reduced form around its ring."""
    discriminant = discriminant_at(reduced)
    path = path_behind((reduced, (1, 0), (0, 1)), discriminant)
    while path[0] != reduced:
        path = path_behind(path, discriminant)
    return columns_of(path[1:])


def rows_giving(discriminant, number):
    """Forms (number, b, c), one for each b up to multiples of twice the number.

    A form gives the number properly exactly if it is properly alike to one of them.
    """
    size = 2 * abs(number)
    return [
        (number, both, (both * both - discriminant) // (4 * number))
        for both in range(size) if (both * both - discriminant) % (2 * size) == 0
    ]
