"""Shelves: forms under names, and wishes that hold after each change ([24])."""

import functools
import itertools

from formworld.errors import Broken, InUse, InvalidDeeds, InvalidIndex, InvalidName, InvalidWish, NotAForm
from formworld.errors import NothingToUndo, UnknownName, WrongName
from formworld.forms import Form
from formworld.shelves import Shelf
from tests import reference, two
from tests.cases import Case, NO_INTEGERS, Stranger

WIDE, TILTED, MAIN, CIRCLE = Form((2, 2, 3)), Form((2, 6, 7)), Form((1, 0, 5)), Form((1, 0, 1))
NO_NAMES = (None, True, 0, 1, "", "A", "a1", "a_", "a b", " a", "a\n", "abcdefghi", "a" * 20, b"a", (), ("a",), ["a"], {},
            {"a"}, Stranger(), str, "a-", "zZ")
NO_FORMS = NO_INTEGERS + (0, 5, "1 0 1", (1, 0, 1), Form)
FORMS = ((1, 0, 1), (2, 2, 3), (2, 6, 7), (1, 0, 5), (1, 1, 1), (2, 1, 3), (2, -1, 3), (1, 1, 6), (1, 0, -2), (3, 0, -1),
         (1, 2, 1), (0, 1, 0), (1001, 0, 1), (101, 0, -1), (2, 0, 2), (1, 0, 0, 1, 0, 1), (1, 0, 0, 1, 0, -2),
         (1, 0, 0, 0, 1, 0, 0, 1, 0, 1), (1, 0, 0, 0, 2, 0, 0, 5, 0, 5), (1, 0, 0, 0, 1, 0, 0, 1, 0, -7),
         (1, 0, 0, 0, 0, 1, 0, 0, 0, 1, 0, 0, 1, 0, 1), (-1, 0, -1), (100, 0, -100), (9, 0, -4), (2, 4, 6))
NUMBERS = (1, 2, 3, 5, 7, 15)


@functools.cache
def given(row):
    return set(reference.listing(row, 15).values()) - {0}


def gives_all(row):
    if len(given(row)) < 15:
        return False
    squares = [numbers[k] for k, numbers in enumerate(reference.table(row))]
    if row == reference.diagonal([number // 2 for number in squares]):
        return len(reference.diagonal_given([number // 2 for number in squares], 290)) == 290
    return len(reference.given_numbers(row, 290)) == 290


def is_positive(row):
    return reference.signature(row) == (reference.unknowns(row), 0)


def is_small(row):
    return is_positive(row) and max(map(abs, row)) <= 1000


@functools.cache
def least(row):
    return reference.least_of_bases(row, max(row))


def primitive_binary(row):
    if reference.unknowns(row) > 2 or not two.is_discriminant(two.discriminant(row)) or not two.is_primitive(row):
        return False
    return two.discriminant(row) > 0 or row[0] > 0


def genus(row):
    """What the forms of one genus have in common: the values modulo the discriminant that are prime to it."""
    d = abs(two.discriminant(row))
    values = {two.value(row, x, y) % d for x in range(d) for y in range(d)}
    return frozenset(v for v in values if reference.math.gcd(v, 2 * d) == 1)


@functools.cache
def holds(word, *rows):
    """Whether a wish about these forms, or a form and a number, holds."""
    row = rows[0]
    if word in ("gives", "misses"):
        return is_small(row) and (rows[1] in given(row)) is (word == "gives")
    if word == "all":
        return is_small(row) and gives_all(row)
    if word == "nought":
        if reference.determinant(reference.table(row)) == 0 or max(map(abs, row)) > 100 or len(row) == 15:
            return False
        numbers = reference.diagonal_by_fractions(row)
        return reference.barring_by_rule(numbers, 100) is None
    if word == "genus":
        if not all(map(primitive_binary, rows)) or two.discriminant(row) != two.discriminant(rows[1]):
            return False
        return genus(row) == genus(rows[1])
    if not all(is_small(one) and len(one) < 15 for one in rows):
        return False
    return (len(row) == len(rows[1]) and least(row) == least(rows[1])) is (word == "alike")


class Model:
    """The forms and wishes as they should be, and all states before."""

    def __init__(self):
        self.states = [({}, ())]

    @property
    def forms(self):
        return self.states[-1][0]

    @property
    def wishes(self):
        return self.states[-1][1]

    def wish_holds(self, wish, forms):
        names = wish[1:2] if wish[0] in ("gives", "misses") else wish[1:]
        if not all(isinstance(name, str) and name in forms for name in names):
            return False
        rows = [forms[name].coefficients for name in names]
        return holds(wish[0], *rows, *wish[len(names) + 1:])

    def first_broken(self, forms, wishes):
        return next((k for k, wish in enumerate(wishes) if not self.wish_holds(wish, forms)), None)

    def outcome(self, deed):
        """The error that is due, or the next state."""
        forms, wishes = self.states[-1]
        if deed[0] == "put":
            _, name, form = deed
            if not (isinstance(name, str) and 1 <= len(name) <= 8 and all("a" <= c <= "z" for c in name)):
                return InvalidName, {"given": name}
            if not isinstance(form, Form):
                return NotAForm, {"given": form}
            forms = forms | {name: form}
            index = self.first_broken(forms, wishes)
            return (forms, wishes) if index is None else (Broken, {"index": index})
        if deed[0] == "drop":
            name = deed[1]
            if not isinstance(name, str) or name not in forms:
                return UnknownName, {"given": name}
            index = next((k for k, w in enumerate(wishes) if name in w[1:2 if w[0] in ("gives", "misses") else 3]), None)
            if index is not None:
                return InUse, {"index": index}
            return {key: form for key, form in forms.items() if key != name}, wishes
        if deed[0] == "wish":
            if not self.is_wish(deed[1]):
                return InvalidWish, {"given": deed[1]}
            return (forms, wishes + (deed[1],)) if self.wish_holds(deed[1], forms) else (Broken, {"index": len(wishes)})
        index = deed[1]
        if type(index) is not int or not 0 <= index < len(wishes):
            return InvalidIndex, {"given": index}
        return forms, wishes[:index] + wishes[index + 1:]

    def is_wish(self, wish):
        if type(wish) is not tuple or not wish or type(wish[0]) is not str:
            return False
        if wish[0] in ("gives", "misses"):
            return len(wish) == 3 and type(wish[2]) is int and 1 <= wish[2] <= 1000
        return wish[0] in ("all", "nought") and len(wish) == 2 or wish[0] in ("alike", "unlike", "genus") and len(wish) == 3

    def check(self, case, shelf):
        case.assertEqual(shelf.names, tuple(sorted(self.forms)))
        case.assertEqual(shelf.wishes, self.wishes)
        case.assertIs(type(shelf.wishes), tuple)
        for told, wish in zip(shelf.wishes, self.wishes):
            case.assertIs(told, wish)
        for name, form in self.forms.items():
            case.assertIs(shelf[name], form)
            case.assertIs(name in shelf, True)
        case.assertEqual((len(shelf), bool(shelf)), (len(self.forms), bool(self.forms)))
        case.assertEqual(shelf.changes, len(self.states) - 1)


WRONG_WISHES = (None, True, 1, "all", (), [], ("all",), ("all", "a", "b"), ("gives", "a"), ("gives", "a", 0), ("gives", "a", 1001),
                ("gives", "a", True), ("gives", "a", "1"), ("gives", "a", None), ("misses", "a", -1), ("misses", "a", 1, 1),
                ("alike", "a"), ("unlike", "a", "b", "c"), ("genus", "a"), ("nought",), ("nought", "a", "b"), ("wish", "a"),
                ["gives", "a", 1], (None, "a", 1), (["gives"], "a", 1), (("gives",), "a", 1), ("", "a"), ("Gives", "a", 1),
                ("give", "a", 1), (b"all", "a"), (1, "a"), (True, "a"), ({}, "a"), (Stranger(), "a"), Stranger())
NOT_THERE = ("zz", "", "A", None, 1, True, ["a"], {}, {"a"}, ("a",), b"a", Stranger(), WIDE)


def some_deed(source, model):
    names = ("a", "b", "c", "abcdefgh")
    kind = source.choice(("put", "put", "put", "drop", "wish", "wish", "wish", "lift"))
    if kind == "put":
        name = source.choice(names) if source.random() < 0.9 else source.choice(NO_NAMES)
        form = Form(source.choice(FORMS)) if source.random() < 0.9 else source.choice(NO_FORMS)
        return kind, name, form
    if kind == "drop":
        return kind, source.choice(names) if source.random() < 0.8 else source.choice(NOT_THERE)
    if kind == "lift":
        return kind, source.randint(-1, len(model.wishes)) if source.random() < 0.8 else source.choice(NO_INTEGERS)
    if source.random() < 0.15:
        return kind, source.choice(WRONG_WISHES)
    first, second = source.choice(names), source.choice(names)
    if source.random() < 0.1:
        first = source.choice(NOT_THERE)
    if source.random() < 0.1:
        second = source.choice(NOT_THERE)
    word = source.choice(("gives", "misses", "all", "alike", "unlike", "genus", "nought"))
    if word in ("gives", "misses"):
        return kind, (word, first, source.choice(NUMBERS))
    return kind, (word, first) if word in ("all", "nought") else (word, first, second)


def perform(shelf, deed):
    if deed[0] == "put":
        shelf[deed[1]] = deed[2]
        return None
    return getattr(shelf, deed[0])(deed[1])


def put(shelf, name, form):
    shelf[name] = form


def filled(**rows):
    shelf = Shelf()
    for name, row in rows.items():
        shelf[name] = Form(row)
    return shelf


class ShelfTest(Case):

    def test_examples(self):
        shelf = Shelf()
        self.assertEqual([shelf.do_all(("put", "a", WIDE), ("put", "b", TILTED), ("wish", ("alike", "a", "b")),
                                       ("wish", ("gives", "a", 7)), ("wish", ("genus", "a", "b"))),
                          shelf.names, shelf.changes],
                         [5, ('a', 'b'), 5])
        self.refused(Broken, {"index": 0}, shelf.do_all, ("lift", 2), ("put", "a", MAIN))
        self.assertEqual((shelf.changes, shelf["a"], len(shelf.wishes)), (5, WIDE, 3))

    def test_new_shelf(self):
        shelf = Shelf()
        self.assertEqual((shelf.names, shelf.wishes, shelf.changes, len(shelf), bool(shelf)), ((), (), 0, 0, False))
        self.refused(NothingToUndo, {}, shelf.undo)
        self.refused(UnknownName, {"given": "a"}, lambda: shelf["a"])
        self.assertEqual(shelf.do_all(), 0)
        self.assertRaises(TypeError, Shelf, 1)

    def test_names(self):
        shelf = Shelf()
        for name in ("a", "z", "abcdefgh", "zzzzzzzz", "form", "q"):
            shelf[name] = WIDE
        self.assertEqual(shelf.names, ("a", "abcdefgh", "form", "q", "z", "zzzzzzzz"))
        for name in NO_NAMES:
            self.refused(InvalidName, {"given": name}, put, shelf, name, None)
            self.refused(InvalidName, {"given": name}, put, shelf, name, WIDE)
            self.refused(UnknownName, {"given": name}, lambda: shelf[name])
            self.refused_both(UnknownName, {"given": name}, shelf.drop, name=name)
            self.assertIs(name in shelf, False)
        for name in ("b", "ab", "abcdefg", "zzzzzzz"):
            self.assertIs(name in shelf, False)
            self.refused(UnknownName, {"given": name}, lambda: shelf[name])
            self.refused_both(UnknownName, {"given": name}, shelf.drop, name=name)
            self.assertRaises(WrongName, shelf.drop, name)
        for given in NO_FORMS:
            self.refused(NotAForm, {"given": given}, put, shelf, "a", given)
        self.assertEqual(shelf.changes, 6)

    def test_long_rows_of_deeds(self):
        source = reference.source(310)
        counts = {}
        for _ in range(12):
            shelf, model = Shelf(), Model()
            for _ in range(250):
                if source.random() < 0.08:
                    if len(model.states) > 1:
                        self.assertIsNone(shelf.undo())
                        model.states.pop()
                    else:
                        self.refused(NothingToUndo, {}, shelf.undo)
                    continue
                deed = some_deed(source, model)
                wanted = model.outcome(deed)
                counts[wanted[0] if isinstance(wanted[0], type) else deed[0]] = True
                if isinstance(wanted[0], type):
                    self.refused(wanted[0], wanted[1], perform, shelf, deed)
                else:
                    self.assertIsNone(perform(shelf, deed))
                    model.states.append(wanted)
                model.check(self, shelf)
            while len(model.states) > 1:
                self.assertIsNone(shelf.undo())
                model.states.pop()
                model.check(self, shelf)
            self.refused(NothingToUndo, {}, shelf.undo)
        self.assertEqual(set(counts), {"put", "drop", "wish", "lift", InvalidName, NotAForm, Broken, UnknownName, InUse,
                                       InvalidWish, InvalidIndex})

    def test_what_wishes_hold(self):
        """Every word with every form, and every pair of forms."""
        names = ["".join(pair) for pair in itertools.product("abcde", repeat=2)][:len(FORMS)]
        shelf = filled(**dict(zip(names, FORMS)))
        found = {}
        cases = [(word, (row,), (name,)) for word in ("all", "nought") for name, row in zip(names, FORMS)]
        cases += [(word, (row, m), (name, m)) for word in ("gives", "misses") for name, row in zip(names, FORMS) for m in NUMBERS]
        pairs = list(itertools.product(zip(names, FORMS), repeat=2))
        cases += [(word, (row, other), (name, second)) for word in ("alike", "unlike", "genus")
                  for (name, row), (second, other) in pairs]
        for word, rows, told in cases:
            wanted = holds(word, *rows)
            found[word, wanted] = True
            changes = shelf.changes
            if wanted:
                self.assertIsNone(shelf.wish((word, *told)), (word, rows))
                self.assertEqual(shelf.changes, changes + 1)
                shelf.undo()
            else:
                self.refused(Broken, {"index": 0}, shelf.wish, (word, *told))
            self.assertEqual((shelf.changes, shelf.wishes), (changes, ()))
        self.assertEqual(len(found), 14)

    def test_bounds_of_wishes(self):
        shelf = filled(a=(1000, 0, 1000), b=(1, 0, 1001), c=(100, 0, -100), d=(101, 0, -101), e=(1, 0, -1), f=(1, 2, 1))
        shelf.wish(("gives", "a", 1000))
        shelf.wish(("misses", "a", 999))
        shelf.wish(("nought", "c"))
        shelf.wish(("nought", "e"))
        shelf.wish(("alike", "a", "a"))
        for wish in (("gives", "b", 1), ("misses", "b", 2), ("nought", "d"), ("nought", "f"), ("nought", "a"), ("gives", "e", 1),
                     ("misses", "c", 1), ("all", "a"), ("all", "e"), ("unlike", "a", "a"), ("alike", "b", "b"), ("alike", "e", "e"),
                     ("unlike", "a", "b"), ("genus", "e", "e"), ("genus", "a", "a")):
            self.refused_both(Broken, {"index": 5}, shelf.wish, wish=wish)
        shelf = filled(a=(1, 0, 1), b=(1, 0, 0, 1, 0, 1), c=(1,) * 15, d=(1, 0, 0, 1, 0, 0), e=(1, 0, 0, 0, 0, 1, 0, 0, 0, 1, 0, 0, 1, 0, -1))
        shelf.wish(("unlike", "a", "b"))
        shelf.wish(("all", "c"))
        for wish in (("unlike", "a", "c"), ("alike", "c", "c"), ("unlike", "b", "d"), ("nought", "e"), ("nought", "d"), ("gives", "d", 1)):
            self.refused_both(Broken, {"index": 2}, shelf.wish, wish=wish)

    def test_wishes_about_what_is_not_there(self):
        shelf = filled(a=(2, 2, 3))
        for value in NOT_THERE + NO_NAMES + NO_INTEGERS:
            for wish in (("gives", value, 7), ("misses", value, 1), ("all", value), ("nought", value), ("alike", value, "a"),
                         ("alike", "a", value), ("unlike", "a", value), ("unlike", value, value), ("genus", value, "a"),
                         ("genus", "a", value)):
                self.refused_both(Broken, {"index": 0}, shelf.wish, wish=wish)
        self.assertEqual((shelf.changes, shelf.wishes), (1, ()))

    def test_wrong_wishes(self):
        shelf = filled(a=(2, 2, 3), b=(2, 2, 3), c=(2, 2, 3))
        for wish in WRONG_WISHES + NO_INTEGERS + tuple(("gives", "a", value) for value in NO_INTEGERS):
            self.refused_both(InvalidWish, {"given": wish}, shelf.wish, wish=wish)
            self.refused_both(InvalidWish, {"given": wish}, Shelf().wish, wish=wish)
        for value in (0, 1001, True, "5", None):
            for name in NOT_THERE:
                wish = ("misses", name, value)
                self.refused_both(InvalidWish, {"given": wish}, shelf.wish, wish=wish)
        self.assertEqual((shelf.changes, shelf.wishes), (3, ()))

    def test_broken_by_a_form_in_the_place_of_another(self):
        shelf = filled(a=(2, 2, 3), b=(2, 6, 7), c=(1, 0, 1))
        wishes = (("gives", "c", 1), ("gives", "a", 7), ("misses", "a", 1), ("alike", "a", "b"), ("genus", "b", "a"),
                  ("unlike", "c", "a"), ("gives", "a", 2))
        for wish in wishes:
            shelf.wish(wish)
        for form, index in ((MAIN, 1), (Form((1, 0, -2)), 1), (Form((7, 0, 1)), 2), (Form((7, 0, 2)), 3), (Form((2, 1, 4)), 3)):
            self.refused(Broken, {"index": index}, put, shelf, "a", form)
            self.assertEqual(shelf["a"], WIDE)
        self.refused(Broken, {"index": 3}, put, shelf, "b", MAIN)
        self.refused(Broken, {"index": 0}, put, shelf, "c", WIDE)
        self.refused(Broken, {"index": 0}, put, shelf, "c", Form((2, 6, 7)))
        self.assertEqual((shelf.changes, shelf.wishes), (10, wishes))
        shelf["a"] = TILTED
        shelf["c"] = MAIN
        self.assertEqual((shelf["a"], shelf["c"], shelf.changes), (TILTED, MAIN, 12))

    def test_dropping(self):
        shelf = filled(a=(2, 2, 3), b=(2, 6, 7), c=(1, 0, 1), d=(1, 0, 5))
        for wish in (("gives", "c", 5), ("alike", "a", "b"), ("gives", "b", 7), ("unlike", "c", "a")):
            shelf.wish(wish)
        for name, index in (("a", 1), ("b", 1), ("c", 0)):
            self.refused_both(InUse, {"index": index}, shelf.drop, name=name)
        self.assertIsNone(shelf.drop("d"))
        self.assertEqual(shelf.names, ("a", "b", "c"))
        self.refused(UnknownName, {"given": "d"}, shelf.drop, "d")
        shelf.lift(0)
        self.refused(InUse, {"index": 2}, shelf.drop, "c")
        shelf.lift(2)
        self.assertIsNone(shelf.drop(name="c"))
        self.assertEqual((shelf.names, shelf.changes), (("a", "b"), 12))
        shelf.undo()
        self.assertEqual(shelf.names, ("a", "b", "c"))

    def test_lifting(self):
        shelf = filled(a=(2, 2, 3))
        wishes = tuple(("gives", "a", number) for number in (2, 3, 7))
        for index in NO_INTEGERS + (0, -1, 1):
            self.refused_both(InvalidIndex, {"given": index}, shelf.lift, index=index)
        for wish in wishes:
            shelf.wish(wish=wish)
        for index in NO_INTEGERS + (3, -1, 10 ** 79):
            self.refused_both(InvalidIndex, {"given": index}, shelf.lift, index=index)
        self.assertIsNone(shelf.lift(index=1))
        self.assertEqual(shelf.wishes, (wishes[0], wishes[2]))
        shelf.undo()
        self.assertEqual(shelf.wishes, wishes)
        self.assertEqual(shelf.changes, 4)

    def test_equal_to_itself_alone(self):
        shelf, other = Shelf(), Shelf()
        self.assertTrue(shelf == shelf and not shelf != shelf and shelf != other and not shelf == other)
        for value in (None, 0, (), {}, Stranger(), WIDE):
            self.assertTrue(shelf != value and not shelf == value)

    def test_what_was_told_stays(self):
        shelf = filled(a=(2, 2, 3))
        names, wishes = shelf.names, shelf.wishes
        shelf["b"] = WIDE
        shelf.wish(("gives", "b", 2))
        self.assertEqual((names, wishes), (("a",), ()))

    def test_forms_are_asked_as_they_are(self):
        """The same form put again counts as a change; a name may come again."""
        shelf = filled(a=(2, 2, 3))
        shelf["a"] = WIDE
        shelf.drop("a")
        shelf["a"] = MAIN
        self.assertEqual((shelf.changes, shelf["a"]), (4, MAIN))
        for row in (None, WIDE, WIDE):
            shelf.undo()
            self.assertEqual(shelf["a"] if shelf else None, row)


class DoAllTest(Case):

    def start(self):
        shelf = filled(a=(2, 2, 3), b=(2, 6, 7))
        shelf.wish(("alike", "a", "b"))
        return shelf

    def state(self, shelf):
        return shelf.names, [shelf[name] for name in shelf.names], shelf.wishes, shelf.changes

    def test_each_can_be_taken_back(self):
        shelf = self.start()
        deeds = (("put", "c", MAIN), ("wish", ("unlike", "a", "c")), ("lift", 0), ("put", "b", CIRCLE), ("drop", "b"))
        states = []
        self.assertEqual(shelf.do_all(*deeds, watch=lambda it: states.append(self.state(it))), 5)
        self.assertEqual([state[3] for state in states], [4, 5, 6, 7, 8])
        self.assertEqual(self.state(shelf), states[-1])
        self.assertEqual(states[1][2], (("alike", "a", "b"), ("unlike", "a", "c")))
        for state in states[-2::-1]:
            shelf.undo()
            self.assertEqual(self.state(shelf), state)

    def test_no_deed_is_done_where_one_is_none(self):
        wrong = (None, True, 0, "put", (), ("put",), ("put", "a"), ("put", "a", WIDE, 1), ("drop",), ("drop", "a", "b"), ("wish",),
                 ("wish", ("all", "a"), 0), ("lift",), ("lift", 0, 1), ("undo",), ("Put", "a", WIDE), ["drop", "a"], (["drop"], "a"),
                 (None, "a"), (0, "a"), ({}, "a"), ("trial", 1), ("", "a"), Stranger(), (Stranger(), 1), b"lift", ("put", None))
        right = (("put", "c", MAIN), ("lift", 0), ("drop", "b"))
        calls = []
        for deed in wrong:
            for index in range(4):
                shelf = self.start()
                before = self.state(shelf)
                deeds = right[:index] + (deed,) + right[index:] + (None,)
                self.refused(InvalidDeeds, {"index": index}, shelf.do_all, *deeds, watch=calls.append)
                self.assertEqual(self.state(shelf), before)
        self.assertEqual(calls, [])
        self.refused(InvalidDeeds, {"index": 1}, self.start().do_all, ("drop", "zz"), None)

    def test_a_deed_that_fails(self):
        right = (("put", "c", MAIN), ("wish", ("gives", "a", 7)), ("put", "d", CIRCLE), ("lift", 0))
        failing = ((("put", "A", None), InvalidName, {"given": "A"}), (("put", "a", None), NotAForm, {"given": None}),
                   (("drop", "zz"), UnknownName, {"given": "zz"}), (("drop", ()), UnknownName, {"given": ()}),
                   (("wish", None), InvalidWish, {"given": None}), (("lift", 7), InvalidIndex, {"given": 7}),
                   (("lift", True), InvalidIndex, {"given": True}))
        for deed, error, attributes in failing:
            for index in range(5):
                shelf = self.start()
                before = self.state(shelf)
                calls = []
                deeds = right[:index] + (deed,) + right[index:]
                self.refused(error, attributes, shelf.do_all, *deeds, watch=lambda it: calls.append(it.changes))
                self.assertEqual(calls, list(range(4, 4 + index)))
                self.assertEqual(self.state(shelf), before)
        shelf = self.start()
        before = self.state(shelf)
        for deeds, error, attributes in (
                ((("drop", "b"),), InUse, {"index": 0}),
                ((("wish", ("gives", "a", 7)), ("put", "a", MAIN)), Broken, {"index": 0}),
                ((("wish", ("gives", "a", 7)), ("lift", 0), ("put", "a", MAIN)), Broken, {"index": 0}),
                ((("wish", ("gives", "a", 7)), ("wish", ("gives", "a", 1))), Broken, {"index": 2}),
                ((("put", "c", MAIN), ("wish", ("all", "c"))), Broken, {"index": 1}),
                ((("lift", 0), ("drop", "b"), ("wish", ("alike", "a", "b"))), Broken, {"index": 0})):
            self.refused(error, attributes, shelf.do_all, *deeds)
            self.assertEqual(self.state(shelf), before)

    def test_wishes_hold_between_deeds(self):
        """Not only at the end: b follows a too late."""
        shelf = self.start()
        self.refused(Broken, {"index": 0}, shelf.do_all, ("put", "a", MAIN), ("put", "b", MAIN))
        self.assertEqual(shelf.do_all(("lift", 0), ("put", "a", MAIN), ("put", "b", MAIN), ("wish", ("alike", "a", "b"))), 4)

    def test_a_watch_that_raises(self):
        for error in (KeyError, ZeroDivisionError, KeyboardInterrupt):
            for last in (1, 2, 3):
                shelf = self.start()
                before = self.state(shelf)
                raised = error()
                calls = []

                def watch(it):
                    self.assertIs(it, shelf)
                    calls.append(it.changes)
                    if len(calls) == last:
                        raise raised

                with self.assertRaises(error) as caught:
                    shelf.do_all(("put", "c", MAIN), ("lift", 0), ("drop", "b"), watch=watch)
                self.assertIs(caught.exception, raised)
                self.assertEqual(calls, [4, 5, 6][:last])
                self.assertEqual(self.state(shelf), before)

    def test_a_watch_with_trials(self):
        shelf = self.start()
        told = []

        def watch(it):
            with it.trial():
                it.undo()
                told.append(it.changes)

        self.assertEqual(shelf.do_all(("put", "c", MAIN), ("drop", "c"), watch=watch), 2)
        self.assertEqual((told, shelf.changes), ([3, 4], 5))

    def test_without_deeds(self):
        shelf = self.start()
        self.assertEqual(shelf.do_all(watch=lambda it: it.missing), 0)
        self.assertEqual(shelf.do_all(watch=None), 0)
        self.assertEqual(shelf.changes, 3)

    def test_random_rows(self):
        source = reference.source(311)
        shelf, model = Shelf(), Model()
        outcomes = set()
        for _ in range(300):
            deeds = [some_deed(source, model) for _ in range(source.randint(0, 4))]
            states = list(model.states)
            error = None
            for deed in deeds:
                wanted = model.outcome(deed)
                if isinstance(wanted[0], type):
                    error = wanted
                    break
                model.states.append(wanted)
            outcomes.add(error and error[0])
            if error:
                model.states[:] = states
                self.refused(error[0], error[1], shelf.do_all, *deeds)
            else:
                self.assertEqual(shelf.do_all(*deeds), len(deeds))
            model.check(self, shelf)
        self.assertGreater(len(outcomes), 6)


class TrialTest(Case):

    def test_trials(self):
        shelf = filled(a=(2, 2, 3), b=(2, 6, 7))
        shelf.wish(("alike", "a", "b"))
        trial = shelf.trial()
        with trial as it:
            self.assertIs(it, shelf)
            shelf.lift(0)
            shelf["a"] = CIRCLE
            with trial:
                for _ in range(5):
                    shelf.undo()
                self.refused(NothingToUndo, {}, shelf.undo)
                self.assertEqual((shelf.changes, bool(shelf)), (0, False))
            self.assertEqual((shelf.changes, shelf["a"], shelf.wishes), (5, CIRCLE, ()))
        self.assertEqual((shelf.changes, shelf["a"], shelf.wishes), (3, WIDE, (("alike", "a", "b"),)))
        shelf.undo()
        self.assertEqual(shelf.wishes, ())

    def test_errors_are_passed_on(self):
        shelf = filled(a=(2, 2, 3))
        for error, action in ((KeyError, lambda it: {}["x"]), (InvalidName, lambda it: put(it, "", WIDE)),
                              (Broken, lambda it: it.wish(("gives", "a", 1))), (UnknownName, lambda it: it["q"])):
            with self.assertRaises(error):
                with shelf.trial():
                    shelf["c"] = MAIN
                    shelf.drop("a")
                    shelf["a"] = WIDE
                    action(shelf)
            with self.assertRaises(error):
                shelf.tried(lambda it: (put(it, "d", MAIN), action(it)))
            self.assertEqual((shelf.names, shelf.changes), (("a",), 1))

    def test_tried(self):
        shelf = filled(a=(2, 2, 3))
        told = object()
        self.assertIs(shelf.tried(action=lambda it: told), told)
        self.assertIs(shelf.tried(lambda it: it), shelf)
        self.assertEqual(shelf.tried(lambda it: it.do_all(("put", "b", MAIN), ("drop", "a")) + len(it)), 3)
        self.assertEqual(shelf.tried(lambda it: (it.undo(), it.tried(lambda that: put(that, "x", MAIN) or that.names))[1]), ("x",))
        self.assertEqual((shelf.names, shelf.changes), (("a",), 1))
        self.assertTrue(shelf.trial() != shelf.trial())

    def test_do_all_within_a_trial(self):
        shelf = filled(a=(2, 2, 3))
        with shelf.trial():
            self.refused(UnknownName, {"given": "q"}, shelf.do_all, ("put", "b", MAIN), ("drop", "q"))
            self.assertEqual(shelf.changes, 1)
            shelf.undo()
            self.refused(InvalidIndex, {"given": 0}, shelf.do_all, ("put", "b", MAIN), ("lift", 0))
            self.assertEqual(shelf.changes, 0)
        self.assertEqual((shelf.names, shelf.changes), (("a",), 1))
