"""The bases in which a positive form of up to four unknowns becomes its least form.

With so few unknowns a basis can have the successive least lengths, each vector the shortest one that is independent
of those before it, and every basis with the least squares has them (Minkowski, van der Waerden). So it can be built
vector by vector: as many vectors of these lengths as are there, if primitive, always go on to such a basis.
"""

from math import gcd

from formworld.fibres import vectors_of_length
from formworld.reducing import short_basis, vectors_from
from formworld.tables import cofactors, dot, table_between


def choices(many, few):
    """All ascending tuples of so few of the integers from 0 to many - 1."""
    rows = [()]
    for size in range(few):
        rows = [row + (number,) for row in rows for number in range(row[-1] + 1 if size > 0 else 0, many)]
    return rows


def open_minors(system):
    """For all choices of one more column than there are vectors: the columns, and the cofactors of a further vector."""
    columns = choices(len(system[0]), len(system) + 1)
    return [(choice, cofactors([[vector[index] for index in choice] for vector in system])) for choice in columns]


def goes_on(minors, vector):
    """Whether the vectors behind these minors, and this one, are part of a basis: they have no common divisor."""
    divisor = 0
    for choice, numbers in minors:
        divisor = gcd(divisor, dot(numbers, [vector[index] for index in choice]))
    return divisor == 1


def shells(table):
    """For each vector of a least basis, in its order, all vectors of its length."""
    basis = short_basis(table)
    short_table = table_between(table, basis)
    lengths = [short_table[index][index] for index in reversed(range(len(basis)))]
    known = {length: vectors_from(basis, vectors_of_length(short_table, length)) for length in lengths}
    return [known[length] for length in lengths]


def ordered_shell(image, shell):
    """The vectors behind their products with the one of this image, the least product first."""
    return sorted([(dot(image, vector), vector) for vector in shell])


def longer_systems(images, systems, shell):
    """The primitive systems with one more vector, of those the ones with the least product of first and last."""
    least = None
    found = []
    shells_by_first = {}
    for system in systems:
        first = system[0]
        if first not in shells_by_first:
            shells_by_first[first] = ordered_shell(images[first], shell)
        minors = open_minors(system)
        for product, vector in shells_by_first[first]:
            if least is not None and product > least:
                break
            if goes_on(minors, vector):
                if product != least:
                    found = []
                least = product
                found.append(system + (vector,))
    return found


def products_within(images, system):
    """The products of all pairs of different vectors: the coefficients that hang on more than their lengths."""
    many = len(system)
    return [
        dot(images[system[left]], system[right]) for left in range(many) for right in range(left + 1, many)
    ]


def least_bases(table):
    """All bases in which the form becomes its least form, as tuples of vectors.

    The products with the first vector are the first coefficients that are still open, so they are made as small as
    can be while the basis is built.
    """
    rows = shells(table)
    images = {vector: [dot(row, vector) for row in table] for shell in rows for vector in shell}
    systems = [(vector,) for vector in rows[0]]
    for shell in rows[1:]:
        systems = longer_systems(images, systems, shell)
    products = [products_within(images, system) for system in systems]
    least = min(products)
    return [system for system, own in zip(systems, products) if own == least]
