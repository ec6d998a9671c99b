"""Writings, counted and listed without going through all vectors.

The last two numbers of a vector stand apart. Whatever the numbers ahead of them are, these shift the last two by
some integers, and leave one of finitely many kinds of pairs to be added. So the pairs of each kind are listed once.
With more than two unknowns this saves the longest loops. Lengths are as in the listing: twice the values.
"""

from formworld.listing import beginnings, extended, levels_of
from formworld.tables import dot


def fibre(table, beginning, rest):
    """What a beginning leaves to be added: the tuple (beginning, shift, kind, length).

    A vector that goes on with the numbers of a pair, less the shift, has this length and that of the pair.
    """
    first, both, second = table[-2][-2], table[-2][-1], table[-1][-1]
    measure = first * second - both * both
    left = dot(beginning, table[-2])
    right = dot(beginning, table[-1])
    up = (second * left - both * right) // measure
    down = (first * right - both * left) // measure
    left = left - first * up - both * down
    right = right - both * up - second * down
    excess = second * left * left - 2 * both * left * right + first * right * right
    return beginning, (up, down), (left, right), (rest + excess) // measure


def fibres(table, most):
    rows = beginnings(levels_of(table)[:-2], most)
    return [fibre(table, beginning, rest) for beginning, rest in rows]


def pairs_of(table, kind, most):
    """All pairs of this kind with a length up to `most`, as tuples (1, number, number), with their lengths.

    They are vectors whose first number is 1, with a table in which the kind stands beside the last two unknowns.
    """
    left, right = kind
    first, both, second = table[-2][-2], table[-2][-1], table[-1][-1]
    levels = levels_of(((0, left, right), (left, first, both), (right, both, second)))
    rows = [((1,), levels[0][0])]
    for level in levels[1:]:
        rows = extended(rows, level, most)
    return rows


def pairs_by_length(table, kind, most):
    pairs = {}
    for (_, left, right), length in pairs_of(table, kind, most):
        if length not in pairs:
            pairs[length] = []
        pairs[length].append((left, right))
    return pairs


def vectors_of_length(table, length):
    """All vectors of this very length."""
    known = {}
    vectors = []
    for beginning, (up, down), kind, low in fibres(table, length):
        if kind not in known:
            known[kind] = pairs_by_length(table, kind, length)
        pairs = known[kind].get(length - low, ())
        vectors.extend([beginning + (left - up, right - down) for left, right in pairs])
    return vectors


def count_of_length(table, length):
    """How many vectors of this very length there are."""
    known = {}
    count = 0
    for _, _, kind, low in fibres(table, length):
        if kind not in known:
            pairs = pairs_by_length(table, kind, length)
            known[kind] = {size: len(pairs[size]) for size in pairs}
        count = count + known[kind].get(length - low, 0)
    return count


def lengths_mask(table, most):
    """An integer whose bit k, for k up to `most`, is 1 exactly if some vector has the length k."""
    lows = {}
    for _, _, kind, low in fibres(table, most):
        if kind not in lows:
            lows[kind] = {}
        lows[kind][low] = True
    mask = 0
    for kind in lows:
        lengths = [length for _, length in pairs_of(table, kind, most)]
        least = min(lengths)
        pairs_mask = 0
        for length in lengths:
            pairs_mask = pairs_mask | (1 << (length - least))
        for low in lows[kind]:
            mask = mask | (pairs_mask << (low + least))
    return mask
