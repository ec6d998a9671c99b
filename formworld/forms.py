"""Forms: whole coefficients for the products of two to five unknowns."""

from math import gcd

from formworld.checks import check_change, check_coefficients, check_other_than_nought, check_vector
from formworld.checks import first_beyond, read_integer
from formworld.errors import InvalidText, NotAForm, TooGreat
from formworld.limits import MOST_SIZE, MOST_SMALL, MOST_UNKNOWNS
from formworld.tables import UNKNOWNS, changed_coefficients, coefficients_of, minors_of, product_at, table_of


class Form:
    """A form; it never changes."""

    def __init__(self, coefficients):
        check_coefficients(coefficients)
        self._coefficients = coefficients

    @staticmethod
    def read(text):
        """The form with this text."""
        coefficients = read_coefficients(text)
        if coefficients is None:
            raise InvalidText(text)
        return Form(coefficients)

    @property
    def coefficients(self):
        return self._coefficients

    @property
    def unknowns(self):
        return UNKNOWNS[len(self._coefficients)]

    @property
    def table(self):
        return table_of(self._coefficients)

    @property
    def measure(self):
        minors = minors_of(self.table)
        return minors[-1] if len(minors) > self.unknowns else 0

    @property
    def signature(self):
        minors = minors_of(self.table)
        plus = len([1 for before, behind in zip(minors, minors[1:]) if before * behind > 0])
        return (plus, len(minors) - 1 - plus)

    @property
    def kind(self):
        plus, minus = self.signature
        if plus + minus < self.unknowns:
            return "flat"
        if minus == 0:
            return "positive"
        return "negative" if plus == 0 else "mixed"

    @property
    def content(self):
        content = 0
        for coefficient in self._coefficients:
            content = gcd(content, coefficient)
        return content

    @property
    def is_even_between(self):
        table = self.table
        return all([table[row][column] % 2 == 0 for row in range(len(table)) for column in range(row)])

    def value(self, vector):
        """The value at the vector."""
        check_vector(vector, self.unknowns)
        return product_at(self.table, vector, vector) // 2

    def product(self, vector, other):
        """What the table makes of two vectors; twice the value if they are the same."""
        check_vector(vector, self.unknowns)
        check_vector(other, self.unknowns)
        return product_at(self.table, vector, other)

    def changed(self, change):
        """The form that has at each vector the value that this one has where the change leads it."""
        check_change(change, self.unknowns)
        return bounded_form(changed_coefficients(self.table, change))

    def times(self, many):
        """The form with all coefficients so many times."""
        check_other_than_nought(many, MOST_SMALL)
        return bounded_form(tuple([many * coefficient for coefficient in self._coefficients]))

    def joined(self, other):
        """The form that gives the sums of values of both."""
        if not isinstance(other, Form):
            raise NotAForm(other)
        many = self.unknowns + other.unknowns
        if many > MOST_UNKNOWNS:
            raise TooGreat(many)
        above = [row + (0,) * other.unknowns for row in self.table]
        below = [(0,) * self.unknowns + row for row in other.table]
        return Form(coefficients_of(above + below))

    def __eq__(self, other):
        return isinstance(other, Form) and self._coefficients == other._coefficients

    def __str__(self):
        # No `join` here: a method of desks, which changes them, has that name, and showing a form changes nothing.
        return str(str(self._coefficients)[1:-1].replace(",", ""))

    def __repr__(self):
        return f"Form of {self.unknowns} unknowns"


def bounded_form(coefficients):
    """The form with these integers as its coefficients, however great they have become."""
    index = first_beyond(coefficients, MOST_SIZE)
    if index is not None:
        raise TooGreat(coefficients[index])
    return Form(coefficients)


def read_coefficients(text):
    """The coefficients in the text, None if it is no text of a form."""
    if not isinstance(text, str):
        return None
    coefficients = tuple([read_integer(word) for word in text.split(" ")])
    if len(coefficients) not in UNKNOWNS or first_beyond(coefficients, MOST_SIZE) is not None:
        return None
    return coefficients
