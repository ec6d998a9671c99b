"""The console: a desk by lines."""

from formworld.alike import count_own, least_form
from formworld.classes import count_classes
from formworld.composing import composed, order_of
from formworld.console import Console
from formworld.errors import InvalidLine, NoAnswer, NotAForm, WrongValue
from formworld.forms import Form
from formworld.genera import genus_of
from formworld.giving import count_writings, gives, least_missed
from formworld.residues import unmet_place
from formworld.solving import families
from tests import reference, two
from tests.cases import Case, NO_INTEGERS, Stranger

WIDE = Form((2, 2, 3))
PLAIN = ("form", "kind", "measure", "missed", "least", "own", "classes", "order", "genus", "square")
FORMS = ((2, 2, 3), (2, 6, 7), (1, 0, 5), (1, 0, -2), (2, 0, 2), (2, 0, -4), (1, 2, 1), (0, 0, 0), (-1, 0, -1), (1001, 0, 1),
         (100, 0, 100), (1, 0, 0, 1, 0, 1), (1, 0, 0, 1, 0, -3), (1, 1, 1, 1, 1, 1), (1, 0, 0, 0, 1, 0, 0, 1, 0, 1), (1,) * 15,
         (1, 0, 0, 0, 1, 0, 0, 2, 0, -7), (10 ** 12, -10 ** 12, 10 ** 12), (2, 1, 3), (1, 1, 6), (1, 0, 21), (101, 0, -1),
         (7, 13, -3))
WRONG_LINES = (
    "", " ", "  ", "form ", " form", "form  ", "Form", "FORM", "forms", "form 1", "form form", "kind 0", "measure 2", "missed 1",
    "least 1", "own 2", "classes -20", "order 1", "genus 1", "square 2", "cut 1", "lead 1", "undo 1", "put", "put 1", "put 1 2 3",
    "put 1  2", " put 1 2", "put 1 2 ", "put one 2", "put 1 +2", "put 01 2", "put 1 02", "put -0 1", "put 1 -0", "put 1 2.0",
    "put 1,2", "put 1 --2", "put 1 -", "put - 1", "put 1 2\n", "\nput 1 2", "put\n1 2", "put 1 2\t", "Put 1 2", "join", "join ",
    "join 1 0 1 ", "join  1 0 1", "join 1 0 x", "join 1 0 01", "join 1 0 -0", "value", "value ", "value 1 ", "value x", "value 1 +1",
    "gives", "gives ", "gives x", "gives 1 2", "gives 01", "gives -0", "gives +1", "gives  1", "gives 1 ", "count", "count 1 1",
    "count 1.", "families", "families 1 2", "families ,", "bar", "bar 1 2", "bar 1e3", "bar 1_000", "none", "ok", "help", "exit",
    "trial", "form\n", "form\nform", "change 1 0 0 1", "times 2", "gives\t1", "gives 1\r",
)
NO_LINES = tuple(given for given in NO_INTEGERS if not isinstance(given, str)) + (
    0, 1, -7, ("form",), ["form"], {"form": 1}, b"form", WIDE, Stranger(), str)


def outcome(action, *given):
    """What the action returns, or the name of the error of the package that it raises."""
    try:
        return action(*given)
    except (WrongValue, NoAnswer) as error:
        return type(error).__name__


def answer(row, word, numbers):
    """What the console should say, told by the functions that are named, with their errors."""
    form = Form(row)
    if word == "form":
        return " ".join(map(str, row))
    if word == "kind":
        plus, minus = reference.signature(row)
        return "flat" if plus + minus < reference.unknowns(row) else "positive" if not minus else "negative" if not plus else "mixed"
    if word == "measure":
        return str(reference.determinant(reference.table(row)))
    if word == "value":
        right = len(numbers) == reference.unknowns(row) and max(map(abs, numbers)) <= 10 ** 75
        return str(reference.value(row, numbers)) if right else "InvalidVector"
    if word == "classes":
        d = two.discriminant(row) if len(row) == 3 else 0
        return str(count_classes(d)) if two.is_discriminant(d) and (d > 0 or row[0] > 0) else "NotBinary"
    if word == "families":
        told = outcome(families, form, *numbers)
        return told if type(told) is str else " ".join(f"{x},{y}" for x, y in told) or "none"
    action = {"gives": gives, "count": count_writings, "missed": least_missed, "least": least_form, "own": count_own,
              "order": order_of, "genus": genus_of, "square": lambda it: composed(it, it), "bar": unmet_place}[word]
    told = outcome(action, form, *numbers)
    if type(told) is bool:
        return "yes" if told else "no"
    return "none" if told is None else " ".join(map(str, told)) if type(told) is tuple else str(told)


class ConsoleTest(Case):

    def test_examples(self):
        console = Console(WIDE)
        self.assertEqual([console.say("gives 7"), console.say("missed"), console.say("genus"), console.say("square"),
                          console.say("order"), console.say("put 0 1"), console.say("form"), console.say("measure"),
                          console.say("families 7"), console.say("undo"), console.say("value 1 -1"), console.say("bar 1"),
                          console.say("classes")],
                         ['yes', '1', '-1 -1', '1 0 5', '2', 'ok', '1 2 3', '8', 'NotMixed', 'ok', '3', '2', '2'])
        self.refused_both(InvalidLine, {"given": "put 0"}, console.say, line="put 0")

    def test_new_console(self):
        for given in NO_INTEGERS + (0, 5, "1 0 1", (1, 0, 1), Form):
            self.refused_both(NotAForm, {"given": given}, Console, form=given)
        console = Console(form=WIDE)
        self.assertEqual(console.say(line="form"), "2 2 3")
        self.assertTrue(console and console == console and console != Console(WIDE) and not console != console)
        for value in (WIDE, None, "2 2 3"):
            self.assertTrue(console != value and not console == value)

    def test_wrong_lines(self):
        for row in ((2, 2, 3), (1, 0, 0, 1, 0, 1)):
            console = Console(Form(row))
            console.say("put 0 7")
            for line in WRONG_LINES + NO_LINES:
                self.refused_both(InvalidLine, {"given": line}, console.say, line=line)
            self.assertEqual(console.say("form"), " ".join(map(str, (7,) + row[1:])))
            self.assertEqual([console.say("undo"), console.say("undo")], ["ok", "NothingToUndo"])

    def test_questions(self):
        for row in FORMS:
            console = Console(Form(row))
            n = reference.unknowns(row)
            asked = [(word, ()) for word in PLAIN if not (word in ("own", "least") and row == (1,) * 15)]
            asked += [("value", numbers) for numbers in ((1,) * n, tuple(range(-1, n - 1)), (0,) * n, (10 ** 75,) * n, (-10 ** 75,) * n,
                                                         (1,), (1,) * (n + 1), (10 ** 75 + 1,) + (0,) * (n - 1), (5,) * 7)]
            asked += [(word, (number,)) for word in ("gives", "count", "families", "bar")
                      for number in (1, 2, 3, 7, -1, 0, 15, 40, -7, 1001, -1001, 10 ** 79)]
            asked += [(word, (number,)) for word in ("bar", "families") for number in (1000, -1000)]
            for word, numbers in asked:
                line = " ".join([word, *map(str, numbers)])
                told = console.say(line)
                self.assertIs(type(told), str)
                self.assertEqual(told, answer(row, word, numbers), (row, line))
            self.assertEqual(console.say("undo"), "NothingToUndo")

    def test_told_answers(self):
        circle, root, four = Console(Form((1, 0, 1))), Console(Form((1, 0, -2))), Console(Form((1, 0, 0, 0, 1, 0, 0, 1, 0, 1)))
        for console, line, wanted in (
                (circle, "count 25", "12"), (circle, "gives 3", "no"), (circle, "missed", "3"), (circle, "own", "8"), (circle, "bar 5", "none"),
                (circle, "bar -1", "0"), (circle, "bar 21", "3"), (circle, "families 5", "NotMixed"), (circle, "genus", "1"),
                (circle, "value 3 4", "25"), (circle, "value 3", "InvalidVector"), (circle, "count 0", "InvalidNumber"),
                (circle, "bar 1001", "InvalidNumber"), (circle, "least", "1 0 1"), (circle, "kind", "positive"), (circle, "order", "1"),
                (root, "families 7", "3,-1 3,1"), (root, "families 3", "none"), (root, "families -1", "1,1"), (root, "families 0", "InvalidNumber"),
                (root, "gives 1", "NotPositive"), (root, "own", "NotPositive"), (root, "missed", "NotPositive"), (root, "least", "NotPositive"),
                (root, "classes", "1"), (root, "square", "-1 2 1"), (root, "measure", "-8"), (root, "kind", "mixed"), (root, "bar 0", "none"),
                (four, "missed", "none"), (four, "own", "384"), (four, "classes", "NotBinary"), (four, "order", "NotBinary"),
                (four, "genus", "NotBinary"), (four, "square", "NotBinary"), (four, "families 1", "NotBinary"), (four, "lead", "NotBinary"),
                (four, "join 1 0 1", "TooGreat"), (four, "bar 7", "none"), (four, "count 5", "48")):
            self.assertEqual(console.say(line), wanted, line)
        for row, lines in (((2, 0, 2), {"order": "NotPrimitive", "genus": "NotPrimitive", "square": "NotPrimitive", "classes": "1"}),
                           ((2, 0, -4), {"families 2": "NotPrimitive", "order": "NotPrimitive", "lead": "ok"}),
                           ((1, 2, 1), {"bar 1": "Flat", "gives 1": "NotPositive", "classes": "NotBinary", "kind": "flat"}),
                           ((1001, 0, 1), {"gives 1": "TooGreat", "missed": "TooGreat", "own": "TooGreat", "bar 1": "TooGreat"}),
                           ((1,) * 15, {"least": "TooGreat", "own": "TooGreat", "bar 1": "TooGreat", "gives 1": "yes"}),
                           ((-1, 0, -1), {"kind": "negative", "lead": "NotBinary", "bar -5": "none", "bar 5": "0"})):
            console = Console(Form(row))
            for line, wanted in lines.items():
                self.assertEqual(console.say(line), wanted, (row, line))

    def test_changes(self):
        console = Console(Form((2, 6, 7)))
        for line, wanted, row in (
                ("undo", "NothingToUndo", "2 6 7"), ("lead", "ok", "2 2 3"), ("put 1 0", "ok", "2 0 3"), ("put 3 1", "InvalidIndex", "2 0 3"),
                ("put -1 1", "InvalidIndex", "2 0 3"), ("put 3 1000000000001", "InvalidIndex", "2 0 3"),
                ("put 0 1000000000001", "InvalidNumber", "2 0 3"), ("put 0 -1000000000001", "InvalidNumber", "2 0 3"),
                ("cut", "TooGreat", "2 0 3"), ("join 1 0 1", "ok", "2 0 0 0 3 0 0 1 0 1"), ("join 1 0 1", "TooGreat", "2 0 0 0 3 0 0 1 0 1"),
                ("join 1", "InvalidCoefficients", "2 0 0 0 3 0 0 1 0 1"), ("join 1 2", "InvalidCoefficients", "2 0 0 0 3 0 0 1 0 1"),
                ("join 1 2 3 4", "InvalidCoefficients", "2 0 0 0 3 0 0 1 0 1"), ("lead", "NotBinary", "2 0 0 0 3 0 0 1 0 1"),
                ("join 1 0 1000000000001", "InvalidCoefficients", "2 0 0 0 3 0 0 1 0 1"), ("cut", "ok", "2 0 0 3 0 1"), ("cut", "ok", "2 0 3"),
                ("put 2 -1000000000000", "ok", "2 0 -1000000000000"), ("put 2 1000000000000", "ok", "2 0 1000000000000"),
                ("lead", "NotBinary", "2 0 1000000000000"), ("undo", "ok", "2 0 -1000000000000"), ("undo", "ok", "2 0 3"),
                ("undo", "ok", "2 0 0 3 0 1"), ("undo", "ok", "2 0 0 0 3 0 0 1 0 1"), ("undo", "ok", "2 0 3"), ("put 1 0", "ok", "2 0 3"),
                ("undo", "ok", "2 0 3"), ("undo", "ok", "2 2 3"), ("undo", "ok", "2 6 7"), ("undo", "NothingToUndo", "2 6 7")):
            self.assertEqual((console.say(line), console.say("form")), (wanted, row), line)

    def test_joins_of_all_sizes(self):
        for row in ((1, 0, 1), (1, 2, 3, 4, 5, 6), (0, 0, 0), (1,) * 10, (1,) * 15):
            for other in ((7, -8, 9), (1, 2, 3, 4, 5, 6), (1,) * 10, (1,) * 15, (1,) * 5, (1,) * 16):
                console = Console(Form(row))
                many = {3: 2, 6: 3, 10: 4, 15: 5}.get(len(other))
                told = console.say("join " + " ".join(map(str, other)))
                if many is None:
                    wanted = "InvalidCoefficients"
                else:
                    wanted = "ok" if many + reference.unknowns(row) <= 5 else "TooGreat"
                self.assertEqual(told, wanted)
                after = reference.joined(row, other) if wanted == "ok" else row
                self.assertEqual(console.say("form"), " ".join(map(str, after)))

    def test_long_rows(self):
        source = reference.source(340)
        console, rows = Console(WIDE), [(2, 2, 3)]
        for _ in range(400):
            row = rows[-1]
            line = source.choice(("put {} {}", "put {} {}", "join 1 0 2", "cut", "undo", "lead", "measure", "form", "junk"))
            line = line.format(source.randint(0, len(row)), source.randint(-9, 9))
            if line == "junk":
                self.refused(InvalidLine, {"given": line}, console.say, line)
                continue
            told = console.say(line)
            word, *numbers = line.split()
            if word == "put":
                index, number = map(int, numbers)
                self.assertEqual(told, "ok" if index < len(row) else "InvalidIndex")
                if index < len(row):
                    rows.append(row[:index] + (number,) + row[index + 1:])
            elif word == "join":
                self.assertEqual(told, "ok" if reference.unknowns(row) < 4 else "TooGreat")
                if told == "ok":
                    rows.append(reference.joined(row, (1, 0, 2)))
            elif word == "cut":
                self.assertEqual(told, "ok" if len(row) > 3 else "TooGreat")
                if told == "ok":
                    n = reference.unknowns(row)
                    rows.append(tuple(row[k] for k, (_, j) in enumerate((i, j) for i in range(n) for j in range(i, n)) if j < n - 1))
            elif word == "undo":
                self.assertEqual(told, "ok" if len(rows) > 1 else "NothingToUndo")
                if told == "ok":
                    rows.pop()
            elif word == "lead":
                right = len(row) == 3 and two.is_discriminant(two.discriminant(row)) and (two.discriminant(row) > 0 or row[0] > 0)
                self.assertEqual(told, "ok" if right else "NotBinary")
                if right:
                    rows.append(two.leader_of(row))
            self.assertEqual(console.say("form"), " ".join(map(str, rows[-1])))
            self.assertEqual(console.say("measure"), str(reference.determinant(reference.table(rows[-1]))))
