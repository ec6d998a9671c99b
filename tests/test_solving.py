"""Solutions and families ([19])."""

import itertools
import math

from formworld.errors import InvalidNumber, InvalidVector, NotAForm, NotBinary, NotMixed, NotPrimitive
from formworld.forms import Form
from formworld.solving import families, is_one_family, is_solved, least_member, solutions_in_box
from formworld.units import least_unit, turn
from tests import reference, two
from tests.cases import Case, NO_INTEGERS
from tests.test_binary import NO_BINARY, NO_FORMS

WIDE, CIRCLE, ROOT = Form((2, 2, 3)), Form((1, 0, 1)), Form((1, 0, -2))
MIXED = ((1, 0, -2), (-1, 2, 1), (1, 1, -1), (1, 0, -3), (3, 0, -1), (2, 1, -4), (1, 0, -7), (5, 3, -3), (1, 1, -3),
         (2, 6, 1), (1, 0, -10), (3, 4, -2), (7, 20, 11), (-5, 3, 4), (1, 9, 1), (4, 5, -3), (1, 1, -57), (2, 7, -3))
POSITIVE = ((1, 0, 1), (1, 1, 1), (2, 2, 3), (2, 1, 3), (1, 0, 5), (2, 0, 2), (3, 3, 3), (4, 4, 6), (5, 14, 10))
MULTIPLES = ((2, 0, -4), (3, 3, -3), (-2, 4, 2), (6, 3, -6))
NUMBERS = (1, -1, 2, -2, 3, 4, -4, 5, 7, -7, 8, 9, -9, 12, 16, 17, 18, 23, 25, -28, 31, 32, 36, 41, 45, 49, 50, 63, 64,
           72, -81, 98, 100, 119, 144, -161, 175, 288, 343, 400, 441, 539, 625, -648, 900, 961, -977, 1000, -1000)
TOP = 10 ** 75


def brute(row, number, size):
    span = range(-size, size + 1)
    return tuple((x, y) for x in span for y in span if two.value(row, x, y) == number)


def by_roots(row, number, size):
    """For each first number the second ones, as roots."""
    a, b, c = row
    found = []
    for x in range(-size, size + 1):
        square = (b * x) ** 2 - 4 * c * (a * x * x - number)
        if square >= 0 and math.isqrt(square) ** 2 == square:
            for top in {-b * x + math.isqrt(square), -b * x - math.isqrt(square)}:
                if top % (2 * c) == 0 and abs(top // (2 * c)) <= size:
                    found.append((x, top // (2 * c)))
    return tuple(sorted(found))


def one_family(row, v, w):
    """By the quotient of both, as numbers (s + t w) / 2: it is a unit exactly if s and t are integers."""
    a, b, c = row
    d = two.discriminant(row)
    m = two.value(row, *v)
    if two.value(row, *w) != m:
        return False
    left, right = 2 * a * v[0] + b * v[1], 2 * a * w[0] + b * w[1]
    s, t = left * right - d * v[1] * w[1], right * v[1] - left * w[1]
    return s % (2 * a * m) == 0 and t % (2 * a * m) == 0


def rank(v):
    return abs(v[1]), abs(v[0]), -v[0], -v[1]


def grouped(row, vectors):
    """The vectors by families, each from the least one on."""
    groups = []
    for v in sorted(vectors, key=rank):
        for group in groups:
            if one_family(row, group[0], v):
                group.append(v)
                break
        else:
            groups.append([v])
    return groups


def moved(change, vector):
    return tuple(sum(a * b for a, b in zip(line, vector)) for line in change)


def back(change):
    (p, q), (r, s) = change
    return (s, -q), (-r, p)


class BoxTest(Case):

    def test_examples(self):
        self.assertEqual(
            [solutions_in_box(ROOT, 7, 5), solutions_in_box(WIDE, 3, 1), solutions_in_box(CIRCLE, 2, 0)],
            [((-5, -3), (-5, 3), (-3, -1), (-3, 1), (3, -1), (3, 1), (5, -3), (5, 3)),
             ((-1, 1), (0, -1), (0, 1), (1, -1)), ()])
        self.assertEqual(solutions_in_box(size=1, number=3, form=WIDE), ((-1, 1), (0, -1), (0, 1), (1, -1)))

    def test_all_vectors_of_small_boxes(self):
        for row in MIXED + POSITIVE + MULTIPLES:
            for size in (0, 1, 2, 7):
                for number in NUMBERS + (6, -3, 10, 14):
                    found = solutions_in_box(Form(row), number, size)
                    self.assertIs(type(found), tuple)
                    self.assertEqual(found, brute(row, number, size), (row, number, size))

    def test_great_boxes(self):
        for row in MIXED + POSITIVE + MULTIPLES:
            for number in NUMBERS[::7]:
                self.assertEqual(solutions_in_box(Form(row), number, 1000), by_roots(row, number, 1000), (row, number))

    def test_behind_changes(self):
        source = reference.source(121)
        for row in MIXED + POSITIVE:
            skew = two.acted(row, two.some_proper(source, 5))
            for number in NUMBERS[::9]:
                for size in (1, 30, 400):
                    self.assertEqual(solutions_in_box(Form(skew), number, size), by_roots(skew, number, size))

    def test_great_coefficients(self):
        skew = two.acted((2, 1, 3), ((1, 5 * 10 ** 5), (0, 1)))
        self.assertEqual(solutions_in_box(Form(skew), 2, 1000), ((-1, 0), (1, 0)))
        skew = two.acted((-1, 2, 1), ((1, 0), (-5 * 10 ** 5, 1)))
        self.assertEqual(solutions_in_box(Form(skew), 1, 1000), ((0, -1), (0, 1)))


class SolvedTest(Case):

    def test_examples(self):
        self.assertEqual([is_solved(ROOT, 7), is_solved(ROOT, 3), is_solved(WIDE, 7)], [True, False, True])
        self.assertIs(is_solved(number=7, form=ROOT), True)

    def test_positive_forms(self):
        source = reference.source(122)
        for row in POSITIVE + tuple(two.leaders(-231)) + tuple(two.leaders(-47)):
            given = reference.given_numbers(row, 1000)
            skew = Form(two.acted(row, two.some_proper(source, 5)))
            for number in list(range(1, 150)) + [841, 900, 961, 997, 999, 1000]:
                self.assertIs(is_solved(skew, number), number in given, (row, number))
                self.assertIs(is_solved(skew, -number), False)

    def test_mixed_forms(self):
        """If there is a solution, a box has one: its size is bounded by the least unit."""
        for row in MIXED + MULTIPLES:
            content = math.gcd(*row)
            d = two.discriminant(row) // content ** 2
            t, u = least_unit(d)
            if t > 200:
                continue
            given = {two.value(row, x, y) for x in range(-250, 251) for y in range(0, 251)}
            for number in range(-60, 61):
                if number:
                    self.assertIs(is_solved(Form(row), number), number in given, (row, number))

    def test_known_rules(self):
        for number in range(1, 1001):
            odd = [p for p in reference.primes_of(number) if p % 4 == 3 and reference.split(number, p)[0] % 2]
            self.assertIs(is_solved(CIRCLE, number), not odd)
            bars = [p for p in reference.primes_of(number) if p % 8 in (3, 5) and reference.split(number, p)[0] % 2]
            self.assertIs(is_solved(ROOT, number), not bars)
            self.assertIs(is_solved(ROOT, -number), not bars)

    def test_multiples(self):
        for row in MULTIPLES + ((2, 0, 2), (4, 4, 6)):
            content = math.gcd(*row)
            lean = Form(tuple(k // content for k in row))
            for number in range(1, 80):
                wanted = number % content == 0 and is_solved(lean, number // content)
                self.assertIs(is_solved(Form(row), number), wanted)


class FamiliesTest(Case):

    def test_examples(self):
        self.assertEqual([families(ROOT, 7), families(ROOT, 3), families(ROOT, -1)],
                         [((3, -1), (3, 1)), (), ((1, 1),)])
        self.assertEqual(families(number=7, form=ROOT), ((3, -1), (3, 1)))

    def check_families(self, row, number, size):
        """Each solution of a box is in just one family, and the least ones are told."""
        found = families(Form(row), number)
        self.assertIs(type(found), tuple)
        self.assertEqual(list(found), sorted(set(found)))
        self.assertIs(is_solved(Form(row), number), found != ())
        for member in found:
            self.assertEqual(two.value(row, *member), number)
            self.assertEqual((type(member), type(member[0]), type(member[1])), (tuple, int, int))
        for left, right in itertools.combinations(found, 2):
            self.assertFalse(one_family(row, left, right))
        groups = grouped(row, by_roots(row, number, size))
        small = [member for member in found if max(map(abs, member)) <= size]
        self.assertEqual(sorted(group[0] for group in groups), small, (row, number))
        return found

    def test_against_boxes(self):
        seen = 0
        for row in MIXED:
            for number in NUMBERS:
                seen += len(self.check_families(row, number, 150))
        self.assertGreater(seen, 500)

    def test_all_small_numbers(self):
        for row in ((1, 0, -2), (1, 1, -1), (1, 0, -3), (-1, 0, 3), (2, 1, -4), (1, 0, -10), (3, 1, -7)):
            for number in range(-120, 121):
                if number:
                    self.check_families(row, number, 100)

    def test_great_boxes(self):
        for row in MIXED[::3]:
            for number in (1, 7, -28, 144, 900, -1000):
                self.check_families(row, number, 1000)

    def test_behind_changes(self):
        """The families of a changed form are led to those of the form by the change."""
        source = reference.source(123)
        for row in MIXED:
            change = two.some_proper(source, 6)
            skew = two.acted(row, change)
            for number in NUMBERS[::5]:
                left, right = families(Form(row), number), families(Form(skew), number)
                self.assertEqual(len(left), len(right))
                led = [moved(change, member) for member in right]
                for member in left:
                    self.assertEqual([one_family(row, member, other) for other in led].count(True), 1)
                    self.assertEqual(least_member(Form(row), led[0]) in left, True)
                for member in right:
                    self.check_least(skew, member, member)

    def check_least(self, row, vector, wanted):
        """No member some turns away is less."""
        self.assertEqual(least_member(Form(row), vector), wanted)
        change = turn(Form(row))
        forth = other = wanted
        for _ in range(4):
            forth, other = moved(change, forth), moved(back(change), other)
            for one in (forth, other):
                self.assertLessEqual(rank(wanted), min(rank(one), rank((-one[0], -one[1]))))

    def test_great_coefficients(self):
        for row in ((1, 0, -2), (2, 1, -4), (1, 1, -57), (3, 4, -2)):
            for step in (((1, 3 * 10 ** 5), (0, 1)), ((1, 0), (-10 ** 5, 1))):
                skew = two.acted(row, step)
                for number in (1, 7, -2, 9, 100, 1000):
                    found = families(Form(skew), number)
                    self.assertEqual(len(found), len(families(Form(row), number)))
                    for member in found:
                        self.assertEqual(two.value(skew, *member), number)
                        self.check_least(skew, member, member)

    def test_great_units(self):
        for d in (997, 964, 921, 889, 988, 1000):
            for row in two.leaders(d)[:2]:
                for number in (1, -1, 2, 3, 9, 36, -4, 100, 997):
                    found = self.check_families(row, number, 60)
                    for member in found:
                        self.check_least(row, member, member)


class MemberTest(Case):

    def test_examples(self):
        self.assertEqual([least_member(ROOT, (5, 3)), is_one_family(ROOT, (3, 1), (3, -1)),
                          is_one_family(ROOT, (5, 3), (3, -1))], [(3, -1), False, True])
        self.assertEqual(least_member(vector=(5, 3), form=ROOT), (3, -1))
        self.assertIs(is_one_family(other=(3, -1), vector=(5, 3), form=ROOT), True)

    def test_several_turns(self):
        for row in MIXED:
            form = Form(row)
            change = turn(form)
            for number in NUMBERS[::4]:
                for member in families(form, number):
                    forth = other = member
                    for _ in range(5):
                        forth, other = moved(change, forth), moved(back(change), other)
                        for one in (forth, other):
                            opposite = (-one[0], -one[1])
                            self.assertEqual(least_member(form, one), member)
                            self.assertEqual(least_member(form, opposite), member)
                            self.assertIs(is_one_family(form, one, opposite), True)
                            self.assertIs(is_one_family(form, member, opposite), True)

    def test_families_are_told_apart(self):
        for row in MIXED:
            form = Form(row)
            for number in (7, 49, 63, 119, 144, 441, -1000):
                every = by_roots(row, number, 60)
                for v, w in itertools.product(every[:12], every[-12:]):
                    self.assertIs(is_one_family(form, v, w), one_family(row, v, w))
                    self.assertEqual(least_member(form, v) == least_member(form, w), one_family(row, v, w))

    def test_unlike_values(self):
        for v, w in (((1, 0), (2, 0)), ((1, 0), (1, 1)), ((3, 1), (4, 1)), ((1, 0), (0, 1))):
            self.assertIs(is_one_family(ROOT, v, w), False)
            self.assertIs(is_one_family(ROOT, w, v), False)

    def test_values_beyond_a_thousand(self):
        source = reference.source(124)
        for row in MIXED:
            change = turn(Form(row))
            for _ in range(10):
                vector = (source.randint(-10 ** 6, 10 ** 6), source.randint(1, 10 ** 6))
                least = least_member(Form(row), vector)
                self.assertEqual(two.value(row, *least), two.value(row, *vector))
                self.assertTrue(one_family(row, least, vector))
                for one in (least, moved(change, least), moved(back(change), least)):
                    self.assertLessEqual(rank(least), min(rank(one), rank((-one[0], -one[1]))))
                    self.assertEqual(least_member(Form(row), one), least)

    def test_great_vectors(self):
        for row in MIXED:
            form = Form(row)
            change = turn(form)
            for start in ((1, 0), (0, 1), (5, -3), (10 ** 20, 7)):
                forth = other = start
                while max(map(abs, moved(change, forth))) <= TOP:
                    forth = moved(change, forth)
                while max(map(abs, moved(back(change), other))) <= TOP:
                    other = moved(back(change), other)
                self.assertGreater(max(map(abs, forth + other)), 10 ** 40)
                least = least_member(form, start)
                self.assertEqual(least_member(form, forth), least)
                self.assertEqual(least_member(form, (-other[0], -other[1])), least)
                self.assertIs(is_one_family(form, forth, other), True)
                self.assertLessEqual(rank(least), rank(start))
        for vector in ((TOP, TOP), (TOP, -TOP), (TOP, 0), (-TOP, 1), (TOP - 1, TOP)):
            least = least_member(ROOT, vector)
            self.assertEqual(ROOT.value(least), ROOT.value(vector))
            self.assertTrue(one_family((1, 0, -2), least, vector))
            self.assertFalse(is_one_family(ROOT, vector, (1, 0)))

    def test_ties(self):
        """Where two members have a second number of one size, the first number decides, then the greater tuple."""
        self.assertEqual(least_member(ROOT, (-1, 0)), (1, 0))
        self.assertEqual(families(ROOT, 2), ((2, 1),))
        self.assertEqual(families(Form((1, 0, -3)), -2), ((1, 1),))
        self.assertEqual(families(Form((1, 1, -1)), 1), ((1, 0),))
        self.assertEqual(families(Form((1, 2, -1)), -1), ((0, 1),))
        tied = 0
        for row in MIXED + ((1, 2, -1), (1, 4, 2), (1, 3, 1), (2, 2, -1), (1, 6, 7)):
            for number in range(-60, 61):
                if number:
                    for group in grouped(row, by_roots(row, number, 80)):
                        best = [v for v in group if abs(v[1]) == abs(group[0][1])]
                        tied += len(best) > 2
                        for v in best:
                            self.assertEqual(least_member(Form(row), v), group[0])
        self.assertGreater(tied, 50)


class RefusedTest(Case):

    def actions(self):
        return ((is_solved, {"number": 1}), (solutions_in_box, {"number": 1, "size": 1}), (families, {"number": 1}),
                (least_member, {"vector": (1, 0)}), (is_one_family, {"vector": (1, 0), "other": (1, 0)}))

    def test_no_form(self):
        for given in NO_FORMS:
            for action, more in self.actions():
                self.refused_both(NotAForm, {"given": given}, action, form=given, **more)
                self.refused_both(NotAForm, {"given": given}, action, form=given, **dict.fromkeys(more))

    def test_numbers(self):
        rows = [ROOT, WIDE, Form(NO_BINARY[0]), Form((2, 0, -4))]
        for given in NO_INTEGERS + (0, 1001, -1001, 10 ** 79):
            for form in rows:
                self.refused_both(InvalidNumber, {"given": given}, is_solved, form=form, number=given)
                self.refused_both(InvalidNumber, {"given": given}, families, form=form, number=given)
                for size in (0, -1):
                    self.refused_both(InvalidNumber, {"given": given}, solutions_in_box, form=form, number=given,
                                      size=size)

    def test_sizes(self):
        for given in NO_INTEGERS + (-1, 1001, 10 ** 79):
            for form in (ROOT, WIDE, Form(NO_BINARY[0])):
                self.refused_both(InvalidNumber, {"given": given}, solutions_in_box, form=form, number=1, size=given)

    def test_vectors(self):
        wrong = [(given, None) for given in NO_INTEGERS if not isinstance(given, tuple)]
        wrong += [((), None), ((1,), None), ((1, 2, 3), None), ((0, 0), None), ([1, 0], None), ((True, 0), 0),
                  ((1, False), 1), ((1, "0"), 1), ((TOP + 1, 0), 0), ((0, -TOP - 1), 1), ((None, None), 0),
                  ((TOP, 10 ** 79), 1), (("x", 10 ** 79), 0)]
        for given, index in wrong:
            for form in (ROOT, WIDE, Form((2, 0, -4)), Form((0, 0, 0))):
                self.refused_both(InvalidVector, {"index": index}, least_member, form=form, vector=given)
                for other in ((1, 0), None, (0, 0), (True, 1)):
                    self.refused_both(InvalidVector, {"index": index}, is_one_family, form=form, vector=given,
                                      other=other)
                self.refused_both(InvalidVector, {"index": index}, is_one_family, form=form, vector=(1, 0), other=given)

    def test_vectors_of_other_forms(self):
        """A vector is looked at ahead of the form's kind, and must fit the form."""
        form = Form((1, 0, 0, 1, 0, 1))
        self.refused_both(InvalidVector, {"index": None}, least_member, form=form, vector=(1, 0))
        self.refused_both(InvalidVector, {"index": None}, least_member, form=form, vector=(0, 0, 0))
        self.refused_both(InvalidVector, {"index": 2}, least_member, form=form, vector=(1, 0, True))
        self.refused_both(NotBinary, {"given": form}, least_member, form=form, vector=(1, 0, 0))
        self.refused_both(InvalidVector, {"index": None}, is_one_family, form=form, vector=(1, 0, 0), other=(1, 0))
        self.refused_both(NotBinary, {"given": form}, is_one_family, form=form, vector=(1, 0, 0), other=(0, 0, 1))

    def test_last_errors(self):
        for row in NO_BINARY:
            form = Form(row)
            many = form.unknowns
            vector = (1,) + (0,) * (many - 1)
            for action, more in self.actions():
                more = {name: vector if isinstance(value, tuple) else value for name, value in more.items()}
                self.refused_both(NotBinary, {"given": form}, action, form=form, **more)
        for row in POSITIVE:
            for action, more in self.actions()[2:]:
                self.refused_both(NotMixed, {}, action, form=Form(row), **more)
        for row in MULTIPLES:
            for action, more in self.actions()[2:]:
                self.refused_both(NotPrimitive, {}, action, form=Form(row), **more)

    def test_bounds_are_let(self):
        form = Form((1, 0, -10))
        for number in (1000, -1000):
            self.assertTrue(is_solved(form, number))
            self.assertTrue(families(form, number))
            self.assertEqual(solutions_in_box(form, number, 1000), by_roots((1, 0, -10), number, 1000))
            self.assertEqual(solutions_in_box(form, number, 0), ())
