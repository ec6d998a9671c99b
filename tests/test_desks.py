"""Desks: a form that is changed, and back again."""

from formworld.binary import leading
from formworld.desks import Desk
from formworld.errors import InvalidChange, InvalidIndex, InvalidNumber, InvalidVector, NotAForm, NotBinary
from formworld.errors import NothingToUndo, TooGreat, WrongValue
from formworld.forms import Form
from tests import reference, two
from tests.cases import Case, NO_INTEGERS, Stranger

CIRCLE, WIDE, TILTED = Form((1, 0, 1)), Form((2, 2, 3)), Form((2, 6, 7))
NO_FORMS = NO_INTEGERS + (0, 5, "1 0 1", (1, 0, 1), Form)
GREAT = 10 ** 12
STARTS = ((1, 0, 1), (2, 6, 7), (GREAT, -GREAT, GREAT), (0, 0, 0), (1, 1, 1, 1, 1, 1), (1, 0, -2), (0,) * 10, (3,) * 15)


def cut(row):
    n = reference.unknowns(row)
    pairs = [(i, j) for i in range(n) for j in range(i, n)]
    return tuple(c for c, (_, j) in zip(row, pairs) if j < n - 1)


class Model:
    """The coefficients as they should be, and those of all states before."""

    def __init__(self, row):
        self.rows = [row]

    @property
    def row(self):
        return self.rows[-1]

    def check(self, case, desk):
        case.assertEqual(desk.form.coefficients, self.row)
        case.assertEqual(desk.changes, len(self.rows) - 1)
        case.assertIs(type(desk.form), Form)


def some_deed(source, row):
    """A deed, right or wrong, as its name, its arguments, and the error or the coefficients that come of it."""
    n = reference.unknowns(row)
    kind = source.choice(("put", "put", "join", "cut", "lead", "change", "change", "undo"))
    if kind == "put":
        index = source.choice((source.randint(0, len(row) - 1),) * 6 + (-1, len(row), True, None, "0", 10 ** 79))
        value = source.choice((source.randint(-5, 5),) * 6 + (GREAT, -GREAT, GREAT + 1, -GREAT - 1, False, None, (1,)))
        if type(index) is not int or not 0 <= index < len(row):
            return kind, (index, value), (InvalidIndex, {"given": index})
        if type(value) is not int or abs(value) > GREAT:
            return kind, (index, value), (InvalidNumber, {"given": value})
        return kind, (index, value), row[:index] + (value,) + row[index + 1:]
    if kind == "join":
        other = source.choice(((1, 0, 1), (2, 1, 3), (1, 1, 1, 1, 1, 1), None, (1, 0, 1)))
        if other is None:
            return kind, (other,), (NotAForm, {"given": None})
        many = n + reference.unknowns(other)
        return kind, (Form(other),), (TooGreat, {"given": many}) if many > 5 else reference.joined(row, other)
    if kind == "cut":
        return kind, (), (TooGreat, {"given": 1}) if n == 2 else cut(row)
    if kind == "lead":
        if n > 2 or not two.is_discriminant(two.discriminant(row)) or (two.discriminant(row) < 0 and row[0] < 0):
            return kind, (), NotBinary
        return kind, (), leading(Form(row)).coefficients
    if kind == "change":
        change, _ = reference.some_change(source, n, source.randint(1, 3))
        if source.random() < 0.2:
            return kind, (change[:-1],), (InvalidChange, {"index": None})
        if source.random() < 0.2:
            return kind, ((change[0][:-1],) + change[1:],), (InvalidChange, {"index": 0})
        found = reference.changed(row, change)
        great = next((c for c in found if abs(c) > GREAT), None)
        return kind, (change,), found if great is None else (TooGreat, {"given": great})
    return kind, (), None


class DeskTest(Case):

    def test_examples(self):
        desk = Desk(TILTED)
        self.assertEqual([desk.lead(), str(desk.form), desk.put(1, 0), str(desk.form), desk.join(CIRCLE), desk.form.unknowns,
                          desk.cut(), desk.cut(), str(desk.form), desk.undo(), desk.changes, str(desk.form)],
                         [None, '2 2 3', None, '2 0 3', None, 4, None, None, '2 0 3', None, 4, '2 0 0 3 0 1'])
        self.refused_both(InvalidIndex, {"given": 6}, desk.put, index=6, coefficient=1)

    def test_by_name(self):
        desk = Desk(form=TILTED)
        self.assertIsNone(desk.change(change=((1, -1), (0, 1))))
        self.assertEqual(desk.form, WIDE)
        self.assertIsNone(desk.put(coefficient=0, index=1))
        self.assertIsNone(desk.join(other=CIRCLE))
        self.assertEqual(str(desk.form), "2 0 0 0 3 0 0 1 0 1")
        self.assertEqual(desk.tried(action=lambda it: it.changes), 3)

    def test_new_desk(self):
        for row in STARTS:
            form = Form(row)
            desk = Desk(form)
            self.assertIs(desk.form, form)
            self.assertEqual(desk.changes, 0)
            self.assertTrue(desk)
            self.refused(NothingToUndo, {}, desk.undo)
        for given in NO_FORMS:
            self.refused_both(NotAForm, {"given": given}, Desk, form=given)

    def do(self, desk, model, deed):
        kind, given, wanted = deed
        if kind == "undo":
            if len(model.rows) == 1:
                self.refused(NothingToUndo, {}, desk.undo)
            else:
                self.assertIsNone(desk.undo())
                model.rows.pop()
        elif wanted is NotBinary:
            self.refused(NotBinary, {"given": desk.form}, desk.lead)
        elif isinstance(wanted[0], type):
            self.refused(wanted[0], wanted[1], getattr(desk, kind), *given)
        else:
            self.assertIsNone(getattr(desk, kind)(*given))
            model.rows.append(wanted)
        model.check(self, desk)

    def test_long_rows_of_deeds(self):
        source = reference.source(300)
        for row in STARTS:
            desk, model = Desk(Form(row)), Model(row)
            for _ in range(400):
                self.do(desk, model, some_deed(source, model.row))
            while len(model.rows) > 1:
                self.assertIsNone(desk.undo())
                model.rows.pop()
                model.check(self, desk)
            self.refused(NothingToUndo, {}, desk.undo)
            model.check(self, desk)

    def test_nothing_changes_but_counts(self):
        desk = Desk(WIDE)
        desk.put(0, 2)
        desk.lead()
        desk.change(((1, 0), (0, 1)))
        self.assertEqual((desk.form, desk.changes), (WIDE, 3))
        for left in (2, 1, 0):
            desk.undo()
            self.assertEqual((desk.form, desk.changes), (WIDE, left))
        self.refused(NothingToUndo, {}, desk.undo)

    def test_very_many_changes(self):
        desk = Desk(WIDE)
        for number in range(30000):
            desk.put(0, number)
        self.assertEqual((desk.changes, desk.form.coefficients), (30000, (29999, 2, 3)))
        with desk.trial():
            for _ in range(30000):
                desk.undo()
            self.assertEqual(desk.form, WIDE)
        self.assertEqual(desk.changes, 30000)
        del desk

    def test_great_coefficients(self):
        desk = Desk(CIRCLE)
        for index in range(3):
            desk.put(index, GREAT * (-1) ** index)
        self.assertEqual(desk.form.coefficients, (GREAT, -GREAT, GREAT))
        self.refused(TooGreat, {"given": -3 * GREAT}, desk.change, ((1, -1), (0, 1)))
        self.refused(TooGreat, {"given": 3 * GREAT}, desk.change, ((-1, 0), (1, 1)))
        self.assertEqual((desk.changes, desk.form.coefficients), (3, (GREAT, -GREAT, GREAT)))
        desk.change(((0, 1), (1, 0)))
        desk.join(Form((GREAT, 0, -GREAT)))
        self.assertEqual(desk.form.coefficients, (GREAT, -GREAT, 0, 0, GREAT, 0, 0, GREAT, 0, -GREAT))
        desk.put(9, 5)
        self.assertEqual(desk.changes, 6)

    def test_joining_and_cutting(self):
        desk = Desk(CIRCLE)
        desk.join(Form((1, 1, 1, 1, 1, 1)))
        self.assertEqual(desk.form.unknowns, 5)
        for other, many in (((1, 0, 1), 7), ((1,) * 6, 8), ((1,) * 15, 10)):
            self.refused_both(TooGreat, {"given": many}, desk.join, other=Form(other))
        for unknowns in (4, 3, 2):
            self.assertIsNone(desk.cut())
            self.assertEqual(desk.form.unknowns, unknowns)
        self.refused(TooGreat, {"given": 1}, desk.cut)
        self.assertEqual(desk.form, CIRCLE)
        self.assertEqual(desk.changes, 4)
        for given in NO_FORMS:
            self.refused_both(NotAForm, {"given": given}, desk.join, other=given)
        desk = Desk(Form(tuple(range(1, 16))))
        desk.cut()
        self.assertEqual(desk.form.coefficients, (1, 2, 3, 4, 6, 7, 8, 10, 11, 13))
        desk.cut()
        self.assertEqual(desk.form.coefficients, (1, 2, 3, 6, 7, 10))
        desk.cut()
        self.assertEqual(desk.form.coefficients, (1, 2, 6))

    def test_errors_of_put(self):
        for index in NO_INTEGERS + (-1, 3, 10 ** 79, (0,)):
            desk = Desk(CIRCLE)
            self.refused_both(InvalidIndex, {"given": index}, desk.put, index=index, coefficient=None)
            self.assertEqual((desk.form, desk.changes), (CIRCLE, 0))
        for given in NO_INTEGERS + (GREAT + 1, -GREAT - 1):
            for index in range(3):
                desk = Desk(CIRCLE)
                self.refused_both(InvalidNumber, {"given": given}, desk.put, index=index, coefficient=given)
                self.assertEqual((desk.form, desk.changes), (CIRCLE, 0))

    def test_errors_of_change(self):
        desk = Desk(WIDE)
        for change, index in ((None, None), ((), None), ([(1, 0), (0, 1)], None), (((1, 0),), None), (((2, 0), (0, 1)), None),
                              (((1, 0), (1, 0)), None), (((1, 0), [0, 1]), 1), (((1, True), (0, 1)), 0), ((1, (0, 1)), 0),
                              (((1, 0, 0), (0, 1, 0)), 0), (((10 ** 75 + 1, 0), (0, 1)), 0)):
            self.refused_both(InvalidChange, {"index": index}, desk.change, change=change)
        self.assertEqual((desk.form, desk.changes), (WIDE, 0))

    def test_errors_of_lead(self):
        for row in ((1, 2, 1), (0, 0, 0), (-1, 0, -1), (1, 0, 1, 0, 0, 0), (1, 0, -4), (1000, 0, 1000), (1, 0, -251), (1,) * 10):
            form = Form(row)
            desk = Desk(form)
            self.refused(NotBinary, {"given": form}, desk.lead)
            self.assertEqual((desk.form, desk.changes), (form, 0))
        desk = Desk(Form((3, 0, -1)))
        desk.lead()
        self.assertEqual(str(desk.form), "-1 2 2")

    def test_equal_to_itself_alone(self):
        desk, other = Desk(WIDE), Desk(WIDE)
        trial = desk.trial()
        self.assertTrue(desk == desk and not desk != desk and trial == trial and not trial != trial)
        for value in (other, WIDE, None, 0, "", (), Stranger(), trial):
            self.assertTrue(desk != value and not desk == value)
        self.assertTrue(trial != desk.trial() and trial != desk and not trial == None)  # noqa: E711
        self.assertTrue(trial)


class TrialTest(Case):

    def test_gives_the_desk(self):
        desk = Desk(WIDE)
        with desk.trial() as held:
            self.assertIs(held, desk)
            held.put(0, 7)
            self.assertEqual((str(desk.form), desk.changes), ("7 2 3", 1))
        self.assertEqual((desk.form, desk.changes), (WIDE, 0))

    def test_all_that_can_be_taken_back(self):
        desk = Desk(WIDE)
        for number in (5, 6, 7):
            desk.put(0, number)
        with desk.trial():
            desk.undo()
            desk.undo()
            desk.put(2, 9)
            desk.undo()
            desk.undo()
            self.refused(NothingToUndo, {}, desk.undo)
            desk.join(CIRCLE)
        self.assertEqual((str(desk.form), desk.changes), ("7 2 3", 3))
        for row in ("6 2 3", "5 2 3", "2 2 3"):
            desk.undo()
            self.assertEqual(str(desk.form), row)
        self.refused(NothingToUndo, {}, desk.undo)

    def test_errors_are_passed_on(self):
        class Own(Exception):
            pass

        desk = Desk(WIDE)
        desk.put(0, 5)
        for error in (Own, KeyError, ZeroDivisionError, KeyboardInterrupt, GeneratorExit):
            raised = error()
            with self.assertRaises(error) as caught:
                with desk.trial():
                    desk.put(0, 9)
                    raise raised
            self.assertIs(caught.exception, raised)
            self.assertEqual((str(desk.form), desk.changes), ("5 2 3", 1))
        with self.assertRaises(InvalidIndex):
            with desk.trial():
                desk.put(1, 7)
                desk.put(3, 7)
        self.assertEqual((str(desk.form), desk.changes), ("5 2 3", 1))
        with self.assertRaises(WrongValue):
            desk.tried(lambda it: it.join(None))
        self.assertEqual((str(desk.form), desk.changes), ("5 2 3", 1))

    def test_ended_by_return_break_and_continue(self):
        desk = Desk(WIDE)

        def told():
            with desk.trial() as it:
                it.put(0, 9)
                return str(it.form)

        self.assertEqual(told(), "9 2 3")
        for number in (1, 2, 3):
            with desk.trial():
                desk.put(0, number)
                if number == 2:
                    continue
                if number == 3:
                    break
        self.assertEqual((desk.form, desk.changes), (WIDE, 0))

    def test_one_trial_several_times(self):
        desk = Desk(WIDE)
        trial = desk.trial()
        for number in (4, 5, 6):
            with trial as it:
                self.assertEqual(it.changes, 1 if number > 4 else 0)
                it.put(0, number)
            desk.undo() if desk.changes else None
            desk.put(0, number)
        self.assertEqual((str(desk.form), desk.changes), ("6 2 3", 1))

    def test_one_trial_within_itself(self):
        desk = Desk(WIDE)
        trial = desk.trial()
        with trial:
            desk.put(0, 4)
            with trial:
                desk.put(0, 5)
                with trial, trial:
                    desk.undo()
                    desk.undo()
                    self.assertEqual(desk.changes, 0)
                self.assertEqual((str(desk.form), desk.changes), ("5 2 3", 2))
                with self.assertRaises(KeyError):
                    with trial:
                        desk.put(1, 8)
                        raise KeyError
                self.assertEqual((str(desk.form), desk.changes), ("5 2 3", 2))
            self.assertEqual((str(desk.form), desk.changes), ("4 2 3", 1))
            desk.put(2, 1)
        self.assertEqual((desk.form, desk.changes), (WIDE, 0))

    def test_made_early_and_entered_late(self):
        desk = Desk(WIDE)
        trial = desk.trial()
        desk.put(0, 4)
        with trial:
            desk.put(0, 5)
        self.assertEqual((str(desk.form), desk.changes), ("4 2 3", 1))

    def test_trials_of_two_desks(self):
        desk, other = Desk(WIDE), Desk(CIRCLE)
        with desk.trial() as it, other.trial() as that:
            it.put(0, 8)
            that.put(0, 9)
            with desk.trial():
                that.put(0, 10)
            self.assertEqual((str(desk.form), str(other.form)), ("8 2 3", "10 0 1"))
        self.assertEqual((desk.form, other.form), (WIDE, CIRCLE))

    def test_tried(self):
        desk = Desk(WIDE)
        desk.put(0, 4)
        told = object()
        self.assertIs(desk.tried(lambda it: told), told)
        self.assertIsNone(desk.tried(lambda it: it.put(0, 9)))
        self.assertIs(desk.tried(lambda it: it), desk)
        self.assertEqual(desk.tried(lambda it: (it.join(CIRCLE), it.undo(), it.undo(), str(it.form))[-1]), "2 2 3")
        self.assertEqual(desk.tried(lambda it: it.tried(lambda that: that.lead() or that.changes) + it.changes), 3)
        self.assertEqual((str(desk.form), desk.changes), ("4 2 3", 1))
        with self.assertRaises(ZeroDivisionError):
            desk.tried(lambda it: it.put(0, 1 // 0))
        with self.assertRaises(InvalidVector):
            desk.tried(lambda it: it.put(0, 1) or it.form.value((1,)))
        self.assertEqual((str(desk.form), desk.changes), ("4 2 3", 1))

    def test_random_trials(self):
        """Trials within trials, left in any way, against states that are kept apart."""
        source = reference.source(301)
        case = DeskTest()

        def play(desk, model, depth):
            for _ in range(source.randint(1, 8)):
                if depth < 4 and source.random() < 0.3:
                    kept = list(model.rows)
                    way = source.choice(("end", "error", "tried"))
                    try:
                        if way == "tried":
                            desk.tried(lambda it: play(it, model, depth + 1))
                        else:
                            with source.choice((desk.trial(), trials[desk])):
                                play(desk, model, depth + 1)
                                if way == "error":
                                    raise KeyError
                    except KeyError:
                        case.assertEqual(way, "error")
                    model.rows[:] = kept
                    model.check(case, desk)
                else:
                    case.do(desk, model, some_deed(source, model.row))

        for row in STARTS * 3:
            desk, model = Desk(Form(row)), Model(row)
            trials = {desk: desk.trial()}
            for _ in range(12):
                play(desk, model, 0)
            model.check(case, desk)
