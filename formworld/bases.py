"""Bases of positive forms of up to four unknowns: those that make the least form, and those with known products.

With so few unknowns a basis can have the successive least lengths, each vector the shortest one that is independent
of those before it, and every basis with the least squares has them (Minkowski, van der Waerden). So it can be built
vector by vector: as many vectors of these lengths as are there, if primitive, always go on to such a basis.

The tables here are those of such bases, the shortest vector first, and vectors are told along them. The shells are, for
each vector of the basis, all vectors of its length. A system has one vector of each shell. The image of a vector are
its products with the basis.
"""

from math import gcd

from formworld.fibres import vectors_of_length
from formworld.reducing import short_basis
from formworld.tables import cofactors, dot, unit_rows


def least_basis(table):
    """A basis with the successive least lengths, the shortest vector first, and its table."""
    basis, rows = short_basis(table)
    return basis[::-1], [row[::-1] for row in rows[::-1]]


def shells_of(table):
    backward = [row[::-1] for row in table[::-1]]
    lengths = [row[index] for index, row in enumerate(table)]
    known = {length: [vector[::-1] for vector in vectors_of_length(backward, length)] for length in lengths}
    return [known[length] for length in lengths]


def image_of(table, vector):
    return [dot(row, vector) for row in table]


def fits(images, vector, products):
    """Whether the vector has these products with the vectors of these images."""
    for image, product in zip(images, products):
        if dot(image, vector) != product:
            return False
    return True


def matching_rest(table, shells, images, wanted):
    """The rest of a system with the wanted products, behind vectors of these images, None if there is none."""
    place = len(images)
    if place == len(shells):
        return ()
    for vector in shells[place]:
        if fits(images, vector, wanted[place]):
            rest = matching_rest(table, shells, images + [image_of(table, vector)], wanted)
            if rest is not None:
                return (vector,) + rest
    return None


def own_systems(table, shells):
    """For each basis vector a list of own changes, as the systems to which they lead the basis.

    They leave the vectors ahead of it as they are, and there is one for each vector to which it can be led so. All
    own changes are products of such ones, one of each list.
    """
    units = unit_rows(len(table))
    rows = []
    for place in range(len(table)):
        fixed = list(table[:place])
        found = []
        for vector in shells[place]:
            if fits(fixed, vector, table[place]):
                rest = matching_rest(table, shells, fixed + [image_of(table, vector)], table)
                if rest is not None:
                    found.append(units[:place] + (vector,) + rest)
        rows.append(found)
    return rows


def choices(many, few):
    """All ascending tuples of so few of the integers from 0 to many - 1."""
    rows = [()]
    for size in range(few):
        rows = [row + (number,) for row in rows for number in range(row[-1] + 1 if size > 0 else 0, many)]
    return rows


def open_minors(system):
    """For all choices of one more column than there are vectors: the columns, and the cofactors of a further vector."""
    columns = choices(len(system[0]), len(system) + 1)
    return [(choice, cofactors([[vector[index] for index in choice] for vector in system])) for choice in columns]


def goes_on(minors, vector):
    """Whether the vectors behind these minors, and this one, are part of a basis: they have no common divisor."""
    divisor = 0
    for choice, numbers in minors:
        divisor = gcd(divisor, dot(numbers, [vector[index] for index in choice]))
        if divisor == 1:
            return True
    return False


def least_system(table, shells):
    """A system in which the form becomes its least form."""
    nought = (0,) * len(table)
    best = []
    for first in shells[0]:
        if first > nought:
            image = image_of(table, first)
            ordered = [sorted([(dot(image, vector), vector) for vector in shell]) for shell in shells[1:]]
            look_through(table, ordered, (first,), (), best)
    return best[1]


def look_through(table, ordered, system, products, best):
    """Looks for systems that begin so and are less than the best one so far; `best` are its products and itself.

    `products` are those of the first vector with the other ones, the first coefficients that are open. A system with
    all products of the best one is led there by an own change. Where the two begin in the same way, nothing new is
    behind the first vector that differs: what is told is how many vectors can stay.
    """
    place = len(system)
    if place == len(table):
        return judged(products + inner_products(table, system[1:]), system, best)
    minors = open_minors(system)
    for product, vector in ordered[place - 1]:
        longer = products + (product,)
        if best and longer > best[0][:place]:
            break
        if goes_on(minors, vector):
            stays = look_through(table, ordered, system + (vector,), longer, best)
            if stays < place:
                return stays
    return place


def inner_products(table, vectors):
    """The products of all pairs of different vectors, in the order of coefficients."""
    products = ()
    for place, vector in enumerate(vectors):
        image = image_of(table, vector)
        products = products + tuple([dot(image, other) for other in vectors[place + 1:]])
    return products


def judged(products, system, best):
    """Keeps the system if it is the best one; tells how many vectors can stay."""
    if not best or products < best[0]:
        best[:] = [products, system]
    elif products == best[0]:
        stays = 0
        while system[stays] == best[1][stays]:
            stays = stays + 1
        return stays
    return len(system)
