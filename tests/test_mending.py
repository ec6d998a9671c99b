"""Forms near one that give a number, or all; forms that fit looks ([10], [23])."""

import itertools

from formworld.errors import InvalidForms, InvalidLooks, InvalidNumber, NotAForm, NotPositive, TooGreat
from formworld.forms import Form
from formworld.mending import fitting_forms, least_all_mends, least_mends
from tests import reference
from tests.cases import Case, NO_INTEGERS, Stranger
from tests.test_giving import MISSING_ONE
from tests.test_masks import WRONG_LOOKS

NO_FORMS = NO_INTEGERS + (0, 5, "1 0 1", (1, 0, 1), Form)
CIRCLE, WIDE, EISEN = Form((1, 0, 1)), Form((2, 2, 3)), Form((1, 1, 1))
NOT_POSITIVE = ((0, 0, 0), (1, 2, 1), (-1, 0, -1), (1, 0, -1), (1001, 0, -1001), (1, 0, 0, 1, 0, 0), (0,) * 15)


def around(row):
    """The positive forms with no, one and two coefficients changed by 1 or -1."""
    for many in range(3):
        rows = []
        for places in itertools.combinations(range(len(row)), many):
            for steps in itertools.product((-1, 1), repeat=many):
                other = list(row)
                for place, step in zip(places, steps):
                    other[place] += step
                rows.append(tuple(other))
        yield [other for other in rows if reference.signature(other) == (reference.unknowns(row), 0)]


def mends(row, gives):
    for rows in around(row):
        found = sorted(other for other in rows if gives(other))
        if found:
            return tuple(found)
    return None


def gives_one(number):
    return lambda row: number in reference.listing(row, number).values()


class NumberTest(Case):

    def test_examples(self):
        self.assertEqual([least_mends(CIRCLE, 3), least_mends(CIRCLE, 5), least_mends(Form((9, 0, 9)), 1)],
                         [((1, -1, 1), (1, 0, 2), (1, 1, 1), (2, 0, 1)), ((1, 0, 1),), None])
        self.assertEqual(least_mends(number=5, form=CIRCLE), ((1, 0, 1),))

    def test_against_all_forms(self):
        outcomes = set()
        for row in ((1, 0, 1), (2, 2, 3), (1, 1, 1), (3, -2, 7), (5, 5, 5), (9, 0, 9), (2, 0, 2), (4, 3, 6)):
            for number in range(1, 40):
                self.check(row, number, outcomes)
        for row in ((1, 0, 0, 1, 0, 1), (2, 0, 0, 3, 0, 3), (3, 1, 1, 3, 1, 3), (2, 2, 2, 3, 0, 3), (5, 0, 0, 6, 0, 7)):
            for number in (1, 2, 3, 4, 5, 7, 10, 15):
                self.check(row, number, outcomes)
        for row in ((2, 0, 0, 0, 3, 0, 0, 3, 0, 4), (2, 1, 0, 1, 2, 0, -1, 3, 1, 3), (3, 0, 0, 0, 3, 0, 0, 4, 0, 5)):
            for number in (1, 2):
                self.check(row, number, outcomes)
        self.assertEqual(outcomes, {None, 0, 1, 2})

    def check(self, row, number, outcomes):
        wanted = mends(row, gives_one(number))
        found = least_mends(Form(row), number)
        self.assertEqual(found, wanted, (row, number))
        outcomes.add(None if found is None else sum(a != b for a, b in zip(row, found[0])))

    def test_great_coefficients(self):
        """The mends need not be small; the number is given at vectors with few small numbers."""
        for row, numbers in (((1000, 0, 1000), (1000, 999, 998, 1, 501)), ((1000, 1000, 1000), (1000, 999, 998)),
                             ((1000, -1000, 251), (251, 250, 252, 253, 1)), ((997, 3, 1000), (1000, 998, 996, 995))):
            for number in numbers:
                self.check(row, number, set())
        row = reference.diagonal((1000, 999, 1000, 998))
        found = least_mends(Form(row), 997)
        self.assertEqual(found, mends(row, lambda other: 997 in other))
        self.assertIn(reference.diagonal((1000, 999, 1000, 997)), found)
        self.assertNotIn(reference.diagonal((1000, 999, 1001, 997)), found)
        self.assertEqual(least_mends(Form((1000, 0, 1000)), 1000), ((1000, 0, 1000),))

    def test_mends_that_are_not_small(self):
        for row in ((1000, 1000, 1000), (1000, -999, 1000), (1000, -1000, 1000)):
            for number in (1000, 999, 998):
                self.check(row, number, set())
        found = least_mends(Form((1000, 1000, 1000)), 999)
        self.assertEqual(found, mends((1000, 1000, 1000), gives_one(999)))
        self.assertTrue(any(max(row) > 1000 for row in found), found)

    def test_flat_and_mixed_forms_are_none(self):
        """1 2 2 is nearly flat: 0 2 2, 1 3 2 and the like are not positive."""
        for row in ((1, 1, 1), (1, 0, 1), (1, 2, 2), (2, 3, 2), (1, 0, 0, 1, 1, 1)):
            for number in (1, 2, 3, 6, 7):
                for other in least_mends(Form(row), number) or ():
                    self.assertEqual(reference.signature(other), (reference.unknowns(row), 0))
                self.check(row, number, set())

    def test_refused(self):
        for given in NO_FORMS:
            self.refused_both(NotAForm, {"given": given}, least_mends, form=given, number=0)
            self.refused_both(NotAForm, {"given": given}, least_all_mends, form=given)
        for given in NO_INTEGERS + (0, 1001, -1, 10 ** 79):
            for row in ((1, 0, 1), (0, 0, 0), (1001, 0, 1), (1,) * 15):
                self.refused_both(InvalidNumber, {"given": given}, least_mends, form=Form(row), number=given)
        for row in NOT_POSITIVE:
            self.refused_both(NotPositive, {}, least_mends, form=Form(row), number=1)
            self.refused_both(NotPositive, {}, least_all_mends, form=Form(row))
        for row, given in (((1001, 0, 1), 1001), ((1000, -1001, 1000), -1001), ((1, 0, 0, 1, 0, 2000), 2000),
                           (reference.diagonal((1, 1, 1, 1, 1001)), 1001), ((1,) * 15, 5),
                           (reference.diagonal((1000,) * 5), 5)):
            self.refused_both(TooGreat, {"given": given}, least_mends, form=Form(row), number=1000)
            self.refused_both(TooGreat, {"given": given}, least_all_mends, form=Form(row))


class AllTest(Case):

    def test_examples(self):
        self.assertIs(least_all_mends(Form((1, 0, 0, 0, 1, 0, 0, 1, 0, 8))) == ((1, 0, 0, 0, 1, 0, 0, 1, 0, 7),), False)
        four = (1, 0, 0, 0, 1, 0, 0, 1, 0, 1)
        self.assertEqual(least_all_mends(form=Form(four)), (four,))

    def gives_all(self, row):
        """A form with a number up to 15 that it misses is told by few vectors."""
        few = set(reference.listing(row, 15).values())
        if any(number not in few for number in range(1, 16)):
            return False
        return len(reference.given_numbers(row, 290)) == 290

    def test_against_all_forms(self):
        for row in ((1, 0, 0, 0, 1, 0, 0, 1, 0, 8), (1, 0, 0, 0, 2, 0, 0, 5, 0, 5), (1, 0, 0, 0, 1, 0, 0, 2, 0, 15)):
            found = least_all_mends(Form(row))
            self.assertEqual(found, mends(row, self.gives_all), row)
            self.assertEqual({sum(a != b for a, b in zip(row, other)) for other in found}, {1})

    def test_forms_that_miss_one_number(self):
        """Each mend gives all numbers, and so does no form with fewer changes."""
        for number in (1, 3, 6, 10, 15, 31, 110):
            row = MISSING_ONE[number][0]
            found = least_all_mends(Form(row))
            lists = list(around(row))
            if found is None:
                few = [set(reference.listing(other, 15).values()) for rows in lists for other in rows]
                self.assertTrue(all(any(k not in given for k in range(1, 16)) for given in few), row)
                continue
            changed = sum(a != b for a, b in zip(row, found[0]))
            self.assertGreater(changed, 0)
            self.assertEqual(found, tuple(sorted(found)))
            for other in found[:3]:
                self.assertIn(other, lists[changed])
                self.assertEqual(len(reference.given_numbers(other, 290)), 290, (row, other))

    def test_two_and_three_unknowns(self):
        for row in ((1, 0, 1), (1, 1, 1), (2, 2, 3), (1000, 0, 1000), (1, 0, 0, 1, 0, 1), (1, 1, 1, 1, 1, 1), (2, 0, 0, 2, 0, 2)):
            self.assertIsNone(least_all_mends(Form(row)))

    def test_none_is_near(self):
        for row in ((4, 0, 0, 0, 4, 0, 0, 4, 0, 4), (1, 0, 0, 0, 4, 0, 0, 5, 0, 5), (1000, 0, 0, 0, 1000, 0, 0, 1000, 0, 1000)):
            self.assertIsNone(least_all_mends(Form(row)))


class FittingTest(Case):

    def test_examples(self):
        self.assertEqual([fitting_forms((CIRCLE, WIDE, EISEN), ((3, True), (1, True))), fitting_forms((CIRCLE, WIDE), ((4, False),))],
                         [(2,), (1,)])
        self.assertEqual(fitting_forms(looks=((4, False),), forms=(CIRCLE, WIDE)), (1,))

    def test_against_values(self):
        source = reference.source(220)
        rows = reference.POSITIVE
        given = {row: reference.given_numbers(row, 30 if len(row) < 15 else 12) for row in rows}
        for _ in range(60):
            chosen = tuple(source.choice(rows) for _ in range(source.randint(1, 20)))
            most = 30 if all(len(row) < 15 for row in chosen) else 12
            looks = tuple((source.randint(1, most), source.random() < 0.7) for _ in range(source.choice((0, 1, 2, 3, 20))))
            wanted = tuple(k for k, row in enumerate(chosen) if all((m in given[row]) is told for m, told in looks))
            forms = tuple(Form(row) for row in chosen)
            self.assertEqual(fitting_forms(forms, looks), wanted, (chosen, looks))

    def test_no_looks_fit_all(self):
        forms = tuple(Form(row) for row in reference.POSITIVE)
        self.assertEqual(fitting_forms(forms, ()), tuple(range(len(forms))))
        self.assertEqual(fitting_forms((Form((1000, 0, 1000)),) * 20, ()), tuple(range(20)))

    def test_great_numbers(self):
        squares = ((1, 1, 1), (1, 2, 5), (2, 3, 7), (1, 1, 1, 1), (3, 5, 7, 11), (2, 2, 2, 2, 2), (1, 1, 1, 1, 7))
        given = [reference.diagonal_given(one, 200) for one in squares]
        forms = tuple(Form(reference.diagonal(one)) for one in squares)
        for number in range(170, 201):
            for told in (True, False):
                wanted = tuple(k for k, one in enumerate(given) if (number in one) is told)
                self.assertEqual(fitting_forms(forms, ((number, told),)), wanted)

    def test_wrong_forms(self):
        for given in tuple(given for given in NO_INTEGERS if not isinstance(given, tuple)) + (5, [CIRCLE], CIRCLE, (), Stranger()):
            self.refused_both(InvalidForms, {"index": None}, fitting_forms, forms=given, looks=None)
        wrong = NO_FORMS + (Form((1, 2, 1)), Form((1, 0, -1)), Form((-1, 0, -1)), Form((0,) * 15), Form((1001, 0, 1)),
                            Form((1000, -1001, 1000)), (CIRCLE,), [CIRCLE])
        for given in wrong:
            for index in (0, 1, 19):
                forms = (CIRCLE,) * index + (given,) + (wrong[index], CIRCLE)
                self.refused_both(InvalidForms, {"index": index}, fitting_forms, forms=forms, looks=None)
        for many in (21, 22, 40):
            self.refused_both(InvalidForms, {"index": 20}, fitting_forms, forms=(CIRCLE,) * many, looks=())
        self.refused_both(InvalidForms, {"index": 20}, fitting_forms, forms=(CIRCLE,) * 20 + (None,), looks=())

    def test_wrong_looks(self):
        for given in tuple(given for given in NO_INTEGERS if not isinstance(given, tuple)) + (5, [(1, True)]):
            self.refused_both(InvalidLooks, {"index": None}, fitting_forms, forms=(CIRCLE,), looks=given)
        for given in WRONG_LOOKS:
            for index in (0, 3, 19):
                looks = ((5, True),) * index + (given, 7)
                self.refused_both(InvalidLooks, {"index": index}, fitting_forms, forms=(CIRCLE, WIDE), looks=looks)
        self.refused_both(InvalidLooks, {"index": 20}, fitting_forms, forms=(CIRCLE,), looks=((1, True),) * 21)
        self.assertEqual(fitting_forms((CIRCLE,), ((200, True),) * 20), (0,))
