"""Wishes about the forms of a shelf, and whether they hold."""

from formworld.alike import is_alike
from formworld.checks import is_within
from formworld.genera import is_of_genus
from formworld.giving import gives, gives_all
from formworld.limits import MOST_NUMBER
from formworld.noughts import gives_nought
from formworld.requirements import are_of_group, is_placed, is_positive_small, is_small_of_few

LETTERS = "abcdefghijklmnopqrstuvwxyz"
MOST_LETTERS = 8
# How many elements a wish with this word has, and the words behind which a number stands, not a second name.
SIZES = {"gives": 3, "misses": 3, "all": 2, "alike": 3, "unlike": 3, "genus": 3, "nought": 2}
WITH_NUMBER = ("gives", "misses")


def is_name(value):
    if not isinstance(value, str) or not 1 <= len(value) <= MOST_LETTERS:
        return False
    return all([letter in LETTERS for letter in value])


def is_wish(value):
    """Whether it has the form of a wish; anything may stand in the place of a name."""
    if not isinstance(value, tuple) or not value or not isinstance(value[0], str):
        return False
    if value[0] not in SIZES or len(value) != SIZES[value[0]]:
        return False
    return value[0] not in WITH_NUMBER or is_within(value[2], 1, MOST_NUMBER)


def names_in(wish):
    return wish[1:2] if wish[0] in WITH_NUMBER else wish[1:]


def holds(wish, forms):
    """Whether the wish holds for these forms, a dict by their names."""
    named = []
    for name in names_in(wish):
        if not isinstance(name, str) or name not in forms:
            return False
        named.append(forms[name])
    if wish[0] in WITH_NUMBER:
        return is_positive_small(named[0]) and gives(named[0], wish[2]) == (wish[0] == "gives")
    if wish[0] == "all":
        return is_positive_small(named[0]) and gives_all(named[0])
    if wish[0] == "nought":
        return is_placed(named[0]) and gives_nought(named[0])
    if wish[0] == "genus":
        return are_of_group(named) and is_of_genus(named[0], named[1])
    if not is_small_of_few(named[0]) or not is_small_of_few(named[1]):
        return False
    return is_alike(named[0], named[1]) == (wish[0] == "alike")
