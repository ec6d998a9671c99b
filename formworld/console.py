"""The console: a desk by lines."""

from formworld.alike import count_own, least_form
from formworld.binary import discriminant_of
from formworld.checks import read_integer
from formworld.classes import count_classes
from formworld.composing import composed, order_of
from formworld.desks import Desk
from formworld.errors import Flat, InvalidCoefficients, InvalidIndex, InvalidLine, InvalidNumber, InvalidVector
from formworld.errors import NotBinary, NotMixed, NotPositive, NotPrimitive, NothingToUndo, TooGreat
from formworld.forms import Form
from formworld.genera import genus_of
from formworld.giving import count_writings, gives, least_missed
from formworld.residues import unmet_place
from formworld.solving import families

# How many integers stand behind each word; None for one or more.
SIZES = {
    "put": 2, "join": None, "cut": 0, "lead": 0, "undo": 0, "form": 0, "kind": 0, "measure": 0, "value": None,
    "gives": 1, "count": 1, "missed": 0, "least": 0, "own": 0, "classes": 0, "order": 0, "genus": 0, "square": 0,
    "families": 1, "bar": 1,
}
CHANGES = ("put", "join", "cut", "lead", "undo")


class Console:
    """A desk that is told what to do, and asked, by lines."""

    def __init__(self, form):
        self.desk = Desk(form)

    def say(self, line):
        """The answer to the line."""
        words = read_words(line)
        if words is None:
            raise InvalidLine(line)
        return answer(self.desk, words[0], words[1:])


def read_words(line):
    """A list of the word of the line and the integers behind it, None if it is no line."""
    if not isinstance(line, str):
        return None
    words = line.split(" ")
    numbers = [read_integer(word) for word in words[1:]]
    if words[0] not in SIZES or None in numbers:
        return None
    size = SIZES[words[0]]
    is_right = len(numbers) == size if size is not None else len(numbers) > 0
    return [words[0]] + numbers if is_right else None


def answer(desk, word, numbers):
    """What the line does or tells, or the name of the error that comes of it."""
    try:
        if word in CHANGES:
            return done(desk, word, numbers)
        return told_by_numbers(desk.form, word, numbers) if numbers else told(desk.form, word)
    except Flat:
        return "Flat"
    except InvalidCoefficients:
        return "InvalidCoefficients"
    except InvalidIndex:
        return "InvalidIndex"
    except InvalidNumber:
        return "InvalidNumber"
    except InvalidVector:
        return "InvalidVector"
    except NotBinary:
        return "NotBinary"
    except NotMixed:
        return "NotMixed"
    except NotPositive:
        return "NotPositive"
    except NotPrimitive:
        return "NotPrimitive"
    except NothingToUndo:
        return "NothingToUndo"
    except TooGreat:
        return "TooGreat"


def done(desk, word, numbers):
    """Changes the desk."""
    if word == "put":
        desk.put(numbers[0], numbers[1])
    elif word == "join":
        desk.join(Form(tuple(numbers)))
    elif word == "cut":
        desk.cut()
    elif word == "lead":
        desk.lead()
    else:
        desk.undo()
    return "ok"


def told(form, word):
    """The answer to a word alone."""
    if word == "form":
        return str(form)
    if word == "kind":
        return form.kind
    if word == "measure":
        return str(form.measure)
    if word == "missed":
        return number_or_none(least_missed(form))
    if word == "least":
        return str(least_form(form))
    if word == "own":
        return str(count_own(form))
    if word == "classes":
        return str(count_classes(discriminant_of(form)))
    if word == "order":
        return str(order_of(form))
    if word == "genus":
        return " ".join([str(element) for element in genus_of(form)])
    return str(composed(form, form))


def told_by_numbers(form, word, numbers):
    """The answer to a word with integers behind it."""
    if word == "value":
        return str(form.value(tuple(numbers)))
    if word == "gives":
        return "yes" if gives(form, numbers[0]) else "no"
    if word == "count":
        return str(count_writings(form, numbers[0]))
    if word == "bar":
        return number_or_none(unmet_place(form, numbers[0]))
    members = families(form, numbers[0])
    return " ".join([f"{first},{second}" for first, second in members]) if members else "none"


def number_or_none(number):
    return "none" if number is None else str(number)
