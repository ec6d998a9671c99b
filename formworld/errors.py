"""All errors of the package.

Each class takes just the attributes that it is listed with, and keeps them, whatever they are.
"""


class WrongValue(ValueError):
    """A value is of the wrong kind or form."""

    def __init__(self):
        pass


class InvalidText(WrongValue):
    """The string is no text of a form."""

    def __init__(self, given):
        self.given = given


class InvalidName(WrongValue):
    """The value is no name for a shelf."""

    def __init__(self, given):
        self.given = given


class InvalidNumber(WrongValue):
    """The number is none that may stand here."""

    def __init__(self, given):
        self.given = given


class InvalidPlace(WrongValue):
    """The value is no place."""

    def __init__(self, given):
        self.given = given


class InvalidDiscriminant(WrongValue):
    """The value is no discriminant that may stand here."""

    def __init__(self, given):
        self.given = given


class InvalidWish(WrongValue):
    """The value is no wish."""

    def __init__(self, given):
        self.given = given


class InvalidIndex(WrongValue):
    """The index is none of what is there."""

    def __init__(self, given):
        self.given = given


class InvalidLine(WrongValue):
    """The string is no line for a console."""

    def __init__(self, given):
        self.given = given


class NotAForm(WrongValue):
    """The value is no form."""

    def __init__(self, given):
        self.given = given


class NotBinary(WrongValue):
    """The form is no binary form."""

    def __init__(self, given):
        self.given = given


class InvalidCoefficients(WrongValue):
    """These are no coefficients of a form."""

    def __init__(self, index):
        self.index = index


class InvalidVector(WrongValue):
    """This is no vector for the form."""

    def __init__(self, index):
        self.index = index


class InvalidChange(WrongValue):
    """This is no change for the form."""

    def __init__(self, index):
        self.index = index


class InvalidForms(WrongValue):
    """These are no forms that may stand here."""

    def __init__(self, index):
        self.index = index


class InvalidPrimes(WrongValue):
    """These are no primes that may stand here."""

    def __init__(self, index):
        self.index = index


class InvalidMask(WrongValue):
    """This is no mask."""

    def __init__(self, index):
        self.index = index


class InvalidLooks(WrongValue):
    """These are no looks."""

    def __init__(self, index):
        self.index = index


class InvalidDeeds(WrongValue):
    """These are no deeds."""

    def __init__(self, index):
        self.index = index


class WrongName(LookupError):
    """A name stands for nothing."""

    def __init__(self):
        pass


class UnknownName(WrongName):
    """The value is no name of the shelf."""

    def __init__(self, given):
        self.given = given


class NoAnswer(ArithmeticError):
    """A right value for which there is no answer."""

    def __init__(self):
        pass


class NotPositive(NoAnswer):
    """The form is not positive."""

    def __init__(self):
        pass


class NotMixed(NoAnswer):
    """The form is not mixed."""

    def __init__(self):
        pass


class NotPrimitive(NoAnswer):
    """The form is not primitive."""

    def __init__(self):
        pass


class Flat(NoAnswer):
    """The form is flat."""

    def __init__(self):
        pass


class Unlike(NoAnswer):
    """The discriminants are not the same."""

    def __init__(self):
        pass


class NoFilling(NoAnswer):
    """No filling fits."""

    def __init__(self):
        pass


class TooGreat(NoAnswer):
    """Something is greater than it may be."""

    def __init__(self, given):
        self.given = given


class Broken(NoAnswer):
    """A wish would not hold."""

    def __init__(self, index):
        self.index = index


class InUse(NoAnswer):
    """A wish names this form."""

    def __init__(self, index):
        self.index = index


class NothingToUndo(NoAnswer):
    """No change is left that could be taken back."""

    def __init__(self):
        pass
