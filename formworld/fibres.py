"""Writings, found and counted without going through all vectors.

The last two numbers of a vector stand apart. Whatever the numbers ahead of them are, these shift the last two by
some integers, and leave one of finitely many kinds of pairs to be added. So the pairs of a kind that is met often need
be listed only once. Lengths are as in the listing: twice the values.

Of a vector and its opposite only that one is looked at whose first number is not below 0, if there are more than two
unknowns. The vectors with one first number are a slice.
"""

from math import isqrt

from formworld.listing import extended, levels_of, span
from formworld.tables import dot

# From this time on that a kind is met its pairs are listed.
OFTEN = 4


def slices_of(levels, most):
    """For each first number the pair (weight, rows): how many vectors stand for each one there, and the beginning.

    A vector stands for itself, and for its opposite unless this is in the slice, too.
    """
    if len(levels) == 2:
        return [(1, [((), 0)])]
    pivot, divisor, _ = levels[0]
    return [
        (2 if first > 0 else 1, [((first,), pivot * first * first)])
        for first in range(isqrt(divisor * most // pivot) + 1)
    ]


def fibres(table, levels, rows, most):
    """What the beginnings of a slice leave to be added: tuples (beginning, shift, kind, length).

    A vector that goes on with the numbers of a pair, less the shift, has this length and that of the pair.
    """
    for level in levels[1:-2]:
        rows = extended(rows, level, most)
    above, below = table[-2], table[-1]
    first, both, second = above[-2], above[-1], below[-1]
    measure = first * second - both * both
    found = []
    for beginning, rest in rows:
        left = dot(beginning, above)
        right = dot(beginning, below)
        up = (second * left - both * right) // measure
        down = (first * right - both * left) // measure
        left = left - first * up - both * down
        right = right - both * up - second * down
        excess = second * left * left - 2 * both * left * right + first * right * right
        found.append((beginning, (up, down), (left, right), (rest + excess) // measure))
    return found


class Pairs:
    """The pairs of the last two numbers, by their kind and length.

    The pairs of a kind that is met often are all listed once, up to the greatest length; before that they are looked
    for by the length that is asked.
    """

    def __init__(self, rows, most):
        self.rows = rows
        self.most = most
        self.met = {}
        self.listed = {}

    def found(self, kind, length):
        if kind in self.listed:
            return self.listed[kind].get(length, ())
        self.met[kind] = self.met.get(kind, 0) + 1
        if self.met[kind] < OFTEN:
            return pairs_at(self.rows, kind, length)
        self.listed[kind] = pairs_by_length(self.rows, kind, self.most)
        return self.listed[kind].get(length, ())


def uppers(table, kind, most):
    """For each upper number of the pairs of this kind with a length up to `most`: itself, and the numbers slope, base.

    With a lower number n the length of the pair is base + 2 * slope * n + n * n times the last length of the table.
    """
    left, right = kind
    first, both, second = table[-2][-2], table[-2][-1], table[-1][-1]
    measure = first * second - both * both
    middle = second * left - both * right
    reach = isqrt(measure * (second * most + right * right) + middle * middle)
    return [
        (upper, both * upper + right, (first * upper + 2 * left) * upper) for upper in span(measure, middle, reach)
    ]


def pairs_of(table, kind, most):
    """All pairs of this kind with a length up to `most`, as tuples (length, number, number)."""
    second = table[-1][-1]
    pairs = []
    for upper, slope, base in uppers(table, kind, most):
        lowers = span(second, slope, isqrt(second * (most - base) + slope * slope))
        pairs.extend([(base + (2 * slope + second * lower) * lower, upper, lower) for lower in lowers])
    return pairs


def pairs_by_length(table, kind, most):
    pairs = {}
    for length, upper, lower in pairs_of(table, kind, most):
        if length not in pairs:
            pairs[length] = []
        pairs[length].append((upper, lower))
    return pairs


def pairs_at(table, kind, length):
    """All pairs of this kind with this very length, as tuples (number, number)."""
    second = table[-1][-1]
    pairs = []
    for upper, slope, base in uppers(table, kind, length):
        square = second * (length - base) + slope * slope
        root = isqrt(square)
        if root * root == square:
            tops = (root - slope, -root - slope) if root > 0 else (-slope,)
            pairs.extend([(upper, top // second) for top in tops if top % second == 0])
    return pairs


def vectors_of_length(table, length):
    """All vectors of this very length."""
    levels = levels_of(table)
    pairs = Pairs(table, length)
    vectors = []
    for weight, rows in slices_of(levels, length):
        for beginning, (up, down), kind, low in fibres(table, levels, rows, length):
            found = [beginning + (upper - up, lower - down) for upper, lower in pairs.found(kind, length - low)]
            vectors.extend(found)
            if weight == 2:
                vectors.extend([tuple([-number for number in vector]) for vector in found])
    return vectors


def some_vector(table, length):
    """Any vector of this very length, None if there is none."""
    levels = levels_of(table)
    pairs = Pairs(table, length)
    for _, rows in slices_of(levels, length):
        for beginning, (up, down), kind, low in fibres(table, levels, rows, length):
            for upper, lower in pairs.found(kind, length - low):
                return beginning + (upper - up, lower - down)
    return None


def count_of_length(table, length):
    """How many vectors there are of this very length."""
    levels = levels_of(table)
    pairs = Pairs(table, length)
    count = 0
    for weight, rows in slices_of(levels, length):
        for _, _, kind, low in fibres(table, levels, rows, length):
            count = count + weight * len(pairs.found(kind, length - low))
    return count


def lengths_mask(table, wanted):
    """An integer whose bit k is 1 only if some vector has the length k; so it is for all bits that are 1 in `wanted`.

    As soon as all these are met, the slices left are of no interest.
    """
    most = wanted.bit_length() - 1
    levels = levels_of(table)
    known = {}
    mask = 0
    for _, rows in slices_of(levels, most):
        for kind, lows in lows_by_kind(fibres(table, levels, rows, most)):
            if kind not in known:
                known[kind] = mask_of([length for length, _, _ in pairs_of(table, kind, most)])
            least, pairs_mask = known[kind]
            for low in lows:
                mask = mask | (pairs_mask << (low + least))
        if mask & wanted == wanted:
            return mask
    return mask


def lows_by_kind(rows):
    """The different lengths of the fibres of each kind."""
    lows = {}
    for _, _, kind, low in rows:
        if kind not in lows:
            lows[kind] = {}
        lows[kind][low] = True
    return [(kind, list(lows[kind])) for kind in lows]


def mask_of(lengths):
    """The least length, and an integer whose bit k is 1 exactly if the length is there that is greater by k."""
    least = min(lengths)
    mask = 0
    for length in sorted(set(lengths)):
        mask = mask | (1 << (length - least))
    return least, mask
