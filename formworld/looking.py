"""Many numbers at once: which of them a positive form gives, and whether the form fits looks.

The tables here are those of short bases.
"""

from formworld.fibres import lengths_mask


def given_numbers(table, numbers):
    """Those of the numbers that are values, as the keys of a dict."""
    wanted = 0
    for number in numbers:
        wanted = wanted | (1 << (2 * number))
    mask = lengths_mask(table, wanted) if wanted > 0 else 0
    return {number: True for number in numbers if mask >> (2 * number) & 1 == 1}


def looked_numbers(looks):
    return [number for number, _ in looks]


def is_fitting(given, looks):
    """Whether these are, of the numbers in the looks, the ones that should be given."""
    return all([(number in given) == told for number, told in looks])


def fits_looks(table, looks):
    return is_fitting(given_numbers(table, looked_numbers(looks)), looks)
