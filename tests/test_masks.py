"""Forms with hidden coefficients ([23])."""

import itertools

from formworld.errors import InvalidLooks, InvalidMask, InvalidNumber, NoFilling
from formworld.masks import best_number, fillings, surely_alike, verdict
from tests import reference
from tests.cases import Case, NO_INTEGERS, Stranger

# Masks of two, three and four unknowns with one to four hidden places, on the diagonal and beside it.
MASKS = (
    (1, None, 1), (None, 0, 1), (2, None, None), (None, None, None), (3, 2, None), (None, 2, 1), (20, None, 20),
    (None, -1, None), (1, 0, 0, None, 0, 1), (1, None, 0, 1, None, 2), (2, 1, None, 2, None, 3),
    (None, None, 0, None, 1, None), (3, None, None, 4, None, 5), (1, 0, None, 1, 0, None), (-1, None, 0, 1, 0, 1),
    (1, 0, 0, 0, 1, 0, 0, None, 0, 2), (1, None, 0, 0, 2, 0, None, 2, 0, None), (None, 1, 0, 0, None, 0, 0, 2, None, 3),
    (2, 0, None, 1, 3, 0, 0, 3, 0, 3), (1, 1, 1, 1, 1, 1, 1, None, 1, 1), (None, 0, 0, 0, 0, 0, 0, 1, 0, 1),
)
LOOKS = ((), ((1, True),), ((2, False),), ((3, True), (1, True)), ((5, False), (1, True), (4, True)),
         ((6, True), (6, False)), ((7, True), (7, True), (2, True)), ((10, False), (9, False)), ((40, True),))
MOST = 40


def values(row):
    """All values from 1 to 40, by going through all vectors."""
    return reference.given_numbers(row, MOST)


def fitting(mask, reach, looks):
    places = [k for k, c in enumerate(mask) if c is None]
    found = {}
    for numbers in itertools.product(range(-reach, reach + 1), repeat=len(places)):
        row = list(mask)
        for place, number in zip(places, numbers):
            row[place] = number
        row = tuple(row)
        if reference.signature(row) == (reference.unknowns(row), 0):
            given = values(row)
            if all((number in given) is told for number, told in looks):
                found[row] = given
    return found


def cases():
    """With the reach as great as it may be where few places are hidden."""
    for mask in MASKS:
        hidden = mask.count(None)
        for reach in (1, 2, 3)[:3 if hidden < 3 or len(mask) == 3 else 1]:
            if hidden == 3 or len(mask) < 10 or reach < 3:
                yield mask, reach


class MasksTest(Case):

    def test_examples(self):
        self.assertEqual([fillings((1, None, 1), 1, ()), fillings((1, None, 1), 3, ((3, True),)),
                          fillings((1, None, 1), 2, ((2, False),)), fillings((None, 2, 1), 1, ())],
                         [((1, -1, 1), (1, 0, 1), (1, 1, 1)), ((1, -1, 1), (1, 1, 1)), ((1, -1, 1), (1, 1, 1)), ()])
        self.assertEqual([verdict((1, None, 1), 1, (), 1), verdict((1, None, 1), 1, (), 3), verdict((1, None, 1), 1, (), 6),
                          best_number((1, None, 1), 1, (), 9), best_number((1, None, 1), 1, ((2, False),), 9),
                          surely_alike((1, None, 1), 1, ((2, False),)), surely_alike((1, None, 1), 1, ())],
                         ["surely", "perhaps", "never", 2, None, True, False])
        self.assertEqual(fillings(looks=((3, True),), reach=3, mask=(1, None, 1)), ((1, -1, 1), (1, 1, 1)))
        self.assertEqual(verdict(number=3, looks=(), reach=1, mask=(1, None, 1)), "perhaps")
        self.assertEqual(best_number(most=9, looks=(), reach=1, mask=(1, None, 1)), 2)
        self.assertIs(surely_alike(looks=(), reach=1, mask=(1, None, 1)), False)

    def test_against_all_forms(self):
        outcomes = set()
        for mask, reach in cases():
            for looks in LOOKS:
                found = fitting(mask, reach, looks)
                outcomes.add(len(found) if len(found) < 2 else 2 + bool(looks))
                self.assertEqual(fillings(mask, reach, looks), tuple(sorted(found)), (mask, reach, looks))
                if not found:
                    self.check_none(mask, reach, looks)
                else:
                    self.check_numbers(mask, reach, looks, list(found.values()))
        self.assertEqual(outcomes, {0, 1, 2, 3})

    def check_none(self, mask, reach, looks):
        given = {"mask": mask, "reach": reach, "looks": looks}
        self.refused_both(NoFilling, {}, verdict, **given, number=200)
        self.refused_both(NoFilling, {}, best_number, **given, most=1)
        self.refused_both(NoFilling, {}, surely_alike, **given)

    def check_numbers(self, mask, reach, looks, given):
        lesser = {}
        for number in range(1, MOST + 1):
            many = sum(number in one for one in given)
            lesser[number] = min(many, len(given) - many)
            if number < 8 or number in (15, 40):
                wanted = "surely" if many == len(given) else "perhaps" if many else "never"
                self.assertEqual(verdict(mask, reach, looks, number), wanted, (mask, reach, looks, number))
        for most in (1, 2, 7, 25, MOST):
            best = min(range(1, most + 1), key=lambda number: (-lesser[number], number))
            self.assertEqual(best_number(mask, reach, looks, most), best if lesser[best] else None, (mask, reach, looks))

    def test_ties_are_told_as_the_least_number(self):
        """The numbers 2, 5 and 8 are given by one of three fillings, 3 and 7 by two of three."""
        self.assertEqual([best_number((1, None, 1), 1, (), most) for most in range(1, 10)], [None] + [2] * 8)
        found = fitting((2, None, 3), 3, ())
        told = [min(sum(k in given for given in found.values()), sum(k not in given for given in found.values()))
                for k in range(1, 41)]
        self.assertGreater(told.count(max(told)), 1)
        self.assertEqual(best_number((2, None, 3), 3, (), 40), told.index(max(told)) + 1)

    def test_great_numbers(self):
        row = (1, 0, 0, 1, 0, None)
        found = {c: reference.diagonal_given((1, 1, c), 200) for c in (1, 2, 3)}
        for number in range(150, 201):
            many = sum(number in given for given in found.values())
            wanted = "surely" if many == 3 else "perhaps" if many else "never"
            self.assertEqual(verdict(row, 3, (), number), wanted)
            for told in (True, False):
                wanted = tuple((1, 0, 0, 1, 0, c) for c, given in found.items() if (number in given) is told)
                self.assertEqual(fillings(row, 3, ((number, told),)), wanted)
        lesser = [min(sum(k in g for g in found.values()), sum(k not in g for g in found.values())) for k in range(201)]
        best = min(range(1, 201), key=lambda k: (-lesser[k], k))
        self.assertEqual(best_number(row, 3, (), 200), best)

    def test_surely_alike(self):
        for mask, reach in cases():
            if mask.count(None) < 3:
                for looks in LOOKS[:6:2] + (((1, True), (2, False)),):
                    found = fitting(mask, reach, looks)
                    if found and len(found) < 30:
                        least = {reference.least_of_bases(row, max(row[0], row[-1], 12, *row)) for row in found}
                        self.assertIs(surely_alike(mask, reach, looks), len(least) == 1, (mask, reach, looks))
        self.assertIs(surely_alike((1, None, 0, 0, 1, 0, 0, 1, 0, 1), 1, ((1, True), (3, True))), False)
        self.assertIs(surely_alike((2, None, 0, 2, 0, 3), 1, ((4, False),)), True)
        self.assertIs(surely_alike((1, 0, 0, 0, 1, 0, None, 1, 0, 3), 1, ((5, True),)), False)

    def test_one_filling(self):
        self.assertEqual(fillings((None, 0, 1), 1, ()), ((1, 0, 1),))
        self.assertIs(surely_alike((None, 0, 1), 1, ()), True)
        self.assertIsNone(best_number((None, 0, 1), 1, (), 200))
        self.assertEqual([verdict((None, 0, 1), 1, (), k) for k in (1, 3, 200)], ["surely", "never", "surely"])


NO_MASKS = tuple(given for given in NO_INTEGERS if given != ()) + (
    5, "1 0 1", [1, None, 1], (), (None,), (1, None), (1, None, 1, 1), (None,) * 4, (1,) * 5 + (None,) * 2,
    (1, 0, 0, 0, 0, 1, 0, 0, 0, 1, 0, 0, 1, 0, None), (None,) * 15, (1, 2, 3), (1, 0, 1), (1,) * 6, (0,) * 10, (21,) * 4)
NO_ELEMENTS = (21, -21, 10 ** 79, True, False, "1", b"1", (), (1,), [1], {}, Stranger(), int)
ACTIONS = ((fillings, {}), (verdict, {"number": 0}), (best_number, {"most": None}), (surely_alike, {}))
WRONG_LOOKS = (0, 201, -1, True, (1,), (1, True, 1), [1, True], "ab", None, (True, True), (1, 1), (1, 0), (1, None),
               (0, True), (201, False), ("1", True), (None, True), (1, "True"), ((1, True),), {}, Stranger())


class RefusedTest(Case):

    def test_no_mask(self):
        for given in NO_MASKS:
            for action, more in ACTIONS:
                self.refused_both(InvalidMask, {"index": None}, action, mask=given, reach=0, looks=None, **more)

    def test_wrong_elements(self):
        source = reference.source(210)
        for size in (3, 6, 10):
            for index in range(size):
                for given in NO_ELEMENTS:
                    mask = [source.randint(-20, 20) for _ in range(size)]
                    mask[source.choice([k for k in range(size) if k != index])] = None
                    mask[index] = given
                    for k in range(index + 1, size):
                        if source.random() < 0.3:
                            mask[k] = source.choice(NO_ELEMENTS)
                    for action, more in ACTIONS:
                        self.refused_both(InvalidMask, {"index": index}, action, mask=tuple(mask), reach=0, looks=5, **more)

    def test_wrong_element_and_nothing_hidden(self):
        for action, more in ACTIONS:
            self.refused_both(InvalidMask, {"index": 2}, action, mask=(1, 0, 21), reach=1, looks=(), **more)
            self.refused_both(InvalidMask, {"index": 0}, action, mask=("", 0, 21), reach=1, looks=(), **more)

    def test_five_hidden(self):
        for mask, index in (((None,) * 6, 4), ((1, None, None, None, None, None), 5), ((None,) * 10, 4),
                            ((None, 1, None, 1, None, 1, None, 1, 1, None), 9), ((None,) * 4 + (1, None), 5),
                            ((None,) * 4 + (21, None), 4), ((None,) * 5 + (21,), 4)):
            for action, more in ACTIONS:
                self.refused_both(InvalidMask, {"index": index}, action, mask=mask, reach=0, looks=(1,), **more)

    def test_wrong_reach(self):
        for given in NO_INTEGERS + (0, 4, -1, 10 ** 79):
            for action, more in ACTIONS:
                self.refused_both(InvalidNumber, {"given": given}, action, mask=(1, None, 1), reach=given, looks=[], **more)

    def test_no_looks(self):
        for given in tuple(given for given in NO_INTEGERS if not isinstance(given, tuple)) + (5, [(1, True)], Stranger()):
            for action, more in ACTIONS:
                self.refused_both(InvalidLooks, {"index": None}, action, mask=(1, None, 1), reach=1, looks=given, **more)

    def test_wrong_looks(self):
        for given in WRONG_LOOKS:
            for index in (0, 1, 7, 19):
                looks = ((3, True), (200, False)) * 10
                looks = looks[:index] + (given,) + looks[index + 1:]
                for action, more in ACTIONS:
                    self.refused_both(InvalidLooks, {"index": index}, action, mask=(1, None, 1), reach=1, looks=looks, **more)

    def test_too_many_looks(self):
        for looks, index in ((((1, True),) * 21, 20), (((1, True),) * 40, 20), (((1, True),) * 20 + (5,), 20),
                             (((1, True),) * 19 + (None,) + ((1, True),) * 5, 19)):
            for action, more in ACTIONS:
                self.refused_both(InvalidLooks, {"index": index}, action, mask=(1, None, 1), reach=1, looks=looks, **more)

    def test_wrong_numbers(self):
        for given in NO_INTEGERS + (0, 201, -1, 10 ** 79):
            for mask in ((1, None, 1), (None, 2, 1)):
                self.refused_both(InvalidNumber, {"given": given}, verdict, mask=mask, reach=1, looks=(), number=given)
                self.refused_both(InvalidNumber, {"given": given}, best_number, mask=mask, reach=1, looks=(), most=given)

    def test_no_filling(self):
        for mask, looks in (((None, 2, 1), ()), ((1, None, 1), ((1, False),)), ((-1, None, 1), ()), ((0, None, 0), ())):
            self.assertEqual(fillings(mask, 1, looks), ())
            self.refused_both(NoFilling, {}, verdict, mask=mask, reach=1, looks=looks, number=1)
            self.refused_both(NoFilling, {}, best_number, mask=mask, reach=1, looks=looks, most=200)
            self.refused_both(NoFilling, {}, surely_alike, mask=mask, reach=1, looks=looks)

    def test_bounds_are_let(self):
        self.assertEqual(len(fillings((20, None, None, None, 20, None, 0, 20, 0, 20), 3, ())), 7 ** 4)
        self.assertEqual(fillings((1, None, 20), 3, ((200, True),) * 20)[0], fillings((1, None, 20), 3, ((200, True),))[0])
        self.assertEqual(fillings((-20, None, 20), 3, ()), ())
        self.assertEqual([verdict((20, None, 20), 3, (), number) for number in (200, 199)], ["perhaps", "never"])
        looks = ((20, True), (19, False))
        self.assertEqual(fillings((20, None, 20), 1, looks), ((20, -1, 20), (20, 0, 20), (20, 1, 20)))
        self.assertEqual(looks, ((20, True), (19, False)))
