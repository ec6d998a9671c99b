"""All vectors of a positive table up to a length, the length being the product of a vector with itself.

A level belongs to one of the numbers of a vector. With the numbers ahead of it, and their rest, which is the least
length that they allow times the number `divisor`, it tells the span of the number, and the rest for the next level.
"""

from math import isqrt

from formworld.tables import dot


def levels_of(table):
    """For each number of a vector the tuple (pivot, divisor, row), from the first one on."""
    levels = []
    rows = table
    divisor = 1
    while rows:
        last = rows[-1]
        pivot = last[-1]
        levels.append((pivot, divisor, last[:-1]))
        rows = [
            [(pivot * number - row[-1] * other) // divisor for number, other in zip(row[:-1], last)]
            for row in rows[:-1]
        ]
        divisor = pivot
    return levels[::-1]


def span(pivot, middle, reach):
    """The integers n for which pivot * n + middle is from -reach to reach."""
    return list(range(-((reach + middle) // pivot), (reach - middle) // pivot + 1))


def extended(rows, level, most):
    """All ways to put one more number behind the beginnings; rows are pairs (beginning, rest)."""
    pivot, divisor, row = level
    longer = []
    for beginning, rest in rows:
        middle = dot(beginning, row)
        numbers = span(pivot, middle, isqrt(divisor * (pivot * most - rest)))
        longer.extend([
            (beginning + (number,), ((pivot * number + middle) ** 2 + divisor * rest) // pivot) for number in numbers
        ])
    return longer


def beginnings(levels, most):
    """All beginnings of vectors of a length up to `most`, ascending, with their rests."""
    rows = [((), 0)]
    for level in levels:
        rows = extended(rows, level, most)
    return rows


def vectors_within(table, most):
    """The ascending list of all vectors of a length up to `most`, that of noughts among them."""
    levels = levels_of(table)
    pivot, divisor, row = levels[-1]
    vectors = []
    for beginning, rest in beginnings(levels[:-1], most):
        numbers = span(pivot, dot(beginning, row), isqrt(divisor * (pivot * most - rest)))
        vectors.extend([beginning + (number,) for number in numbers])
    return vectors
