"""Which rests the values of a form leave by a power of a prime, and how often: told by its parts at the prime."""

from formworld.primes import prime_divisors, split_power
from formworld.splitting import parts_at


def prime_powers(modulus):
    """Pairs (prime, power): the powers of primes whose product the modulus is."""
    return [(prime, modulus // split_power(modulus, prime)[1]) for prime in prime_divisors(modulus)]


def count_leaving(table, number, prime, modulus):
    """How many vectors of rests by a power of a prime give a value that leaves the same rest as the number."""
    parts = [counts_of_part(part, modulus) for part in parts_at(table, prime)]
    counts = {0: 1}
    for part in parts[:-1]:
        counts = added_counts(counts, part, modulus)
    return sum([many * parts[-1].get((number - rest) % modulus, 0) for rest, many in counts.items()])


def rests_mask(table, prime, modulus):
    """An integer whose bit k, for k below the power of the prime, is 1 exactly if some value leaves the rest k."""
    full = (1 << modulus) - 1
    mask = 1
    for part in parts_at(table, prime):
        shifted = 0
        for rest in counts_of_part(part, modulus):
            shifted = shifted | (mask << rest)
        mask = (shifted & full) | (shifted >> modulus)
    return mask


def added_counts(counts, others, modulus):
    """How often each rest comes out as a sum of one of these rests and one of the others."""
    sums = {}
    for rest, many in counts.items():
        for other, times in others.items():
            total = (rest + other) % modulus
            sums[total] = sums.get(total, 0) + many * times
    return sums


def counts_of_part(part, modulus):
    """How often the values of a part leave each rest that they leave, its unknowns being rests."""
    if len(part) == 1:
        return counts_of_square(part[0], modulus)
    return counts_of_pair(part, modulus)


def counts_of_square(number, modulus):
    counts = {}
    for unknown in range(modulus):
        rest = number * unknown * unknown % modulus
        counts[rest] = counts.get(rest, 0) + 1
    return counts


def counts_of_pair(part, modulus):
    """The same for a part in two unknowns, by a power of 2.

    But for the power of 2 that divides all three coefficients, it is like x y there if one of the others than the
    middle one is even, and like x x + x y + y y if both are odd.
    """
    first, both, second = part
    size = both // split_power(both, 2)[1]
    is_product = first * second // (size * size) % 2 == 0
    size = min(size, modulus)
    counts = {}
    for rest in range(0, modulus, size):
        many = count_of_pair(rest // size, is_product, modulus // size)
        if many > 0:
            counts[rest] = many * size * size
    return counts


def count_of_pair(rest, is_product, modulus):
    """How many pairs of rests by a power of 2 have x y, or else x x + x y + y y, with this rest.

    Pairs with an odd number in them go on from one power to the next equally often. The other ones are twice a pair.
    """
    if modulus == 1:
        return 1
    if rest % 2 == 1:
        return modulus // 2 if is_product else 3 * modulus // 2
    many = modulus if is_product else 0
    if modulus == 2:
        return many + 1
    if rest % 4 == 0:
        many = many + 4 * count_of_pair(rest // 4, is_product, modulus // 4)
    return many
