"""All classes of primitive binary forms of a discriminant, and their products, with leading forms as tuples."""

from math import gcd, isqrt

from formworld.rings import discriminant_at, leading_of, main_row, ring_of


def class_rows(discriminant):
    """The leading forms of all classes of primitive forms, ascending."""
    if discriminant < 0:
        return sorted([row for row in positive_rows(discriminant) if is_primitive(row)])
    leaders = []
    known = {}
    for row in sorted(mixed_rows(discriminant)):
        if row not in known:
            leaders.append(row)
            for other in ring_of(row):
                known[other] = True
    return leaders


def is_primitive(row):
    return gcd(gcd(row[0], row[1]), row[2]) == 1


def positive_rows(discriminant):
    """All reduced forms of a discriminant below 0, those that are not primitive among them."""
    rows = []
    for both in range(discriminant % 2, isqrt(-discriminant // 3) + 1, 2):
        product = (both * both - discriminant) // 4
        for first in range(max(both, 1), isqrt(product) + 1):
            if product % first == 0:
                rows.append((first, both, product // first))
                if 0 < both < first < product // first:
                    rows.append((first, -both, product // first))
    return rows


def mixed_rows(discriminant):
    """All reduced primitive forms of a discriminant above 0 whose first coefficient is below 0.

    In a ring every second form is such a one, the leading form among them.
    """
    rows = []
    root = isqrt(discriminant)
    for both in range(2 - discriminant % 2, root + 1, 2):
        product = (discriminant - both * both) // 4
        for first in range((root - both) // 2 + 1, (root + both) // 2 + 1):
            if product % first == 0:
                rows.append((-first, both, product // first))
    return [row for row in rows if is_primitive(row)]


def opposite_row(row):
    return leading_of((row[0], -row[1], row[2]))


def bezout(number, other):
    """The greatest common divisor or its opposite, and two integers that make it out of both."""
    rows = [(number, 1, 0), (other, 0, 1)]
    while rows[1][0] != 0:
        many = rows[0][0] // rows[1][0]
        rows = [rows[1], tuple([left - many * right for left, right in zip(rows[0], rows[1])])]
    return rows[0]


def united(row, other):
    """A form of the product of both classes, before it is reduced, and the common divisor that has been taken out.

    This is the composition of Gauss in the way of Arndt: the middle coefficient leaves the rests of those of both
    forms, by twice their first coefficients without the divisor.
    """
    first, both, _ = row
    other_first, other_both, _ = other
    discriminant = discriminant_at(row)
    half = (both + other_both) // 2
    inner, left, right = bezout(first, other_first)
    divisor, inside, outside = bezout(inner, half)
    middle = inside * (left * first * other_both + right * other_first * both)
    middle = (middle + outside * ((both * other_both + discriminant) // 2)) // divisor
    product = first * other_first // (divisor * divisor)
    middle = middle % (2 * abs(product))
    return (product, middle, (middle * middle - discriminant) // (4 * product)), divisor


def product_row(row, other):
    """The leading form of the product of both classes."""
    return leading_of(united(row, other)[0])


def power_row(row, many):
    """The leading form of the power of the class, by squaring; the opposite class undoes."""
    power = leading_of(main_row(discriminant_at(row)))
    square = leading_of(row) if many >= 0 else opposite_row(row)
    rest = abs(many)
    while rest > 0:
        if rest % 2 == 1:
            power = product_row(power, square)
        square = product_row(square, square)
        rest = rest // 2
    return power


def powers_of(row, least):
    """The powers of a class with the exponents 1, 2 .., up to that which gives the main class, of this leading form."""
    powers = [leading_of(row)]
    while powers[-1] != least:
        powers.append(product_row(powers[-1], row))
    return powers


def class_orders(discriminant):
    """The orders of all classes, in any order."""
    least = leading_of(main_row(discriminant))
    orders = {}
    for row in class_rows(discriminant):
        if row not in orders:
            powers = powers_of(row, least)
            for index, power in enumerate(powers):
                orders[power] = len(powers) // gcd(len(powers), index + 1)
    return list(orders.values())
