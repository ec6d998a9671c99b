"""Desks: a form that is changed step by step, and back again."""

from formworld.binary import leading
from formworld.checks import check_number, is_within
from formworld.errors import InvalidIndex, NothingToUndo, TooGreat
from formworld.forms import Form
from formworld.limits import MOST_SIZE
from formworld.requirements import require_form
from formworld.tables import coefficients_of
from formworld.trials import Link, Trial

LEAST_UNKNOWNS = 2


class Desk:
    """A form that is changed; `past` is the last link of all the forms that it was, the present one among them."""

    def __init__(self, form):
        require_form(form)
        self.past = Link(form, None)

    @property
    def form(self):
        """The form as it is now."""
        return self.past.held

    @property
    def changes(self):
        """How many changes can be taken back."""
        return self.past.depth

    def change(self, change):
        """The changed form."""
        self.lay(self.form.changed(change))

    def put(self, index, coefficient):
        """This coefficient becomes another one."""
        coefficients = self.form.coefficients
        if not is_within(index, 0, len(coefficients) - 1):
            raise InvalidIndex(index)
        check_number(coefficient, -MOST_SIZE, MOST_SIZE)
        self.lay(Form(coefficients[:index] + (coefficient,) + coefficients[index + 1:]))

    def join(self, other):
        """The form that gives the sums of values of this one and the other one."""
        self.lay(self.form.joined(other))

    def cut(self):
        """The form without its last unknown."""
        if self.form.unknowns == LEAST_UNKNOWNS:
            raise TooGreat(1)
        self.lay(Form(coefficients_of([row[:-1] for row in self.form.table[:-1]])))

    def lead(self):
        """The leading form of the class."""
        self.lay(leading(self.form))

    def undo(self):
        """Takes back the last change."""
        if self.past.before is None:
            raise NothingToUndo()
        self.past = self.past.before

    def trial(self):
        """For a `with` statement: when its rows end, the desk is as it was."""
        return Trial(self)

    def tried(self, action):
        """What the action returns, called with the desk within a trial."""
        with Trial(self) as desk:
            return action(desk)

    def lay(self, form):
        self.past = Link(form, self.past)
