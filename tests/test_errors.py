import unittest

from formworld import errors
from tests.cases import Stranger

WITH_GIVEN = (
    "InvalidText", "InvalidName", "InvalidNumber", "InvalidPlace", "InvalidDiscriminant", "InvalidWish",
    "InvalidIndex", "InvalidLine", "NotAForm", "NotBinary",
)
WITH_INDEX = (
    "InvalidCoefficients", "InvalidVector", "InvalidChange", "InvalidForms", "InvalidPrimes", "InvalidMask",
    "InvalidLooks", "InvalidDeeds",
)
ATTRIBUTES = {
    "WrongValue": {name: "given" for name in WITH_GIVEN} | {name: "index" for name in WITH_INDEX},
    "WrongName": {"UnknownName": "given"},
    "NoAnswer": {
        "NotPositive": None, "NotMixed": None, "NotPrimitive": None, "Flat": None, "Unlike": None, "NoFilling": None,
        "TooGreat": "given", "Broken": "index", "InUse": "index", "NothingToUndo": None,
    },
}
BASES = {"WrongValue": ValueError, "WrongName": LookupError, "NoAnswer": ArithmeticError}
VALUES = (None, True, False, 0, -1, 10 ** 80, "", "a b", b"x", (1, (2,)), [1], {}, {1: 2}, {3}, Stranger(), int, len)


def all_errors():
    for base, below in ATTRIBUTES.items():
        for name, attribute in below.items():
            yield base, name, attribute


class ErrorsTest(unittest.TestCase):

    def test_just_these_classes(self):
        told = set(BASES) | {name for _, name, _ in all_errors()}
        found = {name for name, thing in vars(errors).items() if isinstance(thing, type)}
        self.assertEqual(found, told)
        self.assertEqual(len(told), 3 + 18 + 1 + 10)

    def test_attributes_by_position_and_by_name(self):
        for _, name, attribute in all_errors():
            made = getattr(errors, name)
            if attribute is None:
                continue
            for value in VALUES:
                self.assertIs(getattr(made(value), attribute), value, name)
                by_name = made(**{attribute: value})
                self.assertIs(getattr(by_name, attribute), value, name)
                self.assertEqual(list(vars(by_name)), [attribute], name)

    def test_with_an_attribute_it_is_asked_for(self):
        for _, name, attribute in all_errors():
            made = getattr(errors, name)
            if attribute is None:
                continue
            self.assertRaises(TypeError, made)
            self.assertRaises(TypeError, made, 1, 2)
            self.assertRaises(TypeError, made, **{{"given": "index", "index": "given"}[attribute]: 1})

    def test_without_an_attribute_they_take_none(self):
        without = list(BASES) + [name for _, name, attribute in all_errors() if attribute is None]
        self.assertEqual(len(without), 3 + 7)
        for name in without:
            made = getattr(errors, name)
            self.assertEqual(vars(made()), {}, name)
            self.assertRaises(TypeError, made, 1)
            self.assertRaises(TypeError, made, given=1)
            self.assertRaises(TypeError, made, index=None)

    def test_classes(self):
        own = {name: thing for name, thing in vars(errors).items() if isinstance(thing, type)}
        for base, name, attribute in all_errors():
            error = own[name]() if attribute is None else own[name](1)
            of = {other for other, thing in own.items() if isinstance(error, thing)}
            self.assertEqual(of, {name, base}, name)
            self.assertEqual(own[name].__bases__, (own[base],), name)
            self.assertIsInstance(error, BASES[base])
        for base, python in BASES.items():
            self.assertEqual(own[base].__bases__, (python,))
            of = {other for other, thing in own.items() if isinstance(own[base](), thing)}
            self.assertEqual(of, {base})

    def test_raised_and_caught(self):
        for base, name, attribute in all_errors():
            error = getattr(errors, name)() if attribute is None else getattr(errors, name)("x")
            with self.assertRaises(getattr(errors, base)):
                raise error
            with self.assertRaises(BASES[base]):
                raise error

    def test_each_has_its_own_init(self):
        for name, thing in vars(errors).items():
            if isinstance(thing, type):
                self.assertIn("__init__", vars(thing), name)
