"""Shelves: forms under names, and wishes that hold after each change."""

from formworld.checks import is_within
from formworld.errors import Broken, InUse, InvalidDeeds, InvalidIndex, InvalidName, InvalidWish, NothingToUndo
from formworld.errors import UnknownName
from formworld.requirements import require_form
from formworld.trials import Link, Trial
from formworld.wishes import holds, is_name, is_wish, names_in

# How many elements a deed with this word has.
DEED_SIZES = {"put": 3, "drop": 2, "wish": 2, "lift": 2}


class Shelf:
    """Forms under names, and wishes about them.

    `past` is the last link of all that the shelf held: pairs of a dict of the forms by their names, which never
    changes, and a tuple of the wishes.
    """

    def __init__(self):
        self.past = Link(({}, ()), None)

    def __setitem__(self, at, worth):
        if not is_name(at):
            raise InvalidName(at)
        require_form(worth)
        forms, wishes = self.past.held
        forms = {**forms, at: worth}
        for index, wish in enumerate(wishes):
            if at in names_in(wish) and not holds(wish, forms):
                raise Broken(index)
        self.keep(forms, wishes)

    def __getitem__(self, at):
        if at not in self:
            raise UnknownName(at)
        return self.past.held[0][at]

    def __contains__(self, x):
        return isinstance(x, str) and x in self.past.held[0]

    def __len__(self):
        return len(self.past.held[0])

    def __iter__(self):
        raise TypeError("a shelf is not gone through")

    @property
    def names(self):
        """All names, ascending."""
        return tuple(sorted(list(self.past.held[0])))

    @property
    def wishes(self):
        """All wishes, in their order."""
        return self.past.held[1]

    @property
    def changes(self):
        """How many changes can be taken back."""
        return self.past.depth

    def drop(self, name):
        """Takes a name away."""
        if name not in self:
            raise UnknownName(name)
        forms, wishes = self.past.held
        for index, wish in enumerate(wishes):
            if name in names_in(wish):
                raise InUse(index)
        self.keep({other: forms[other] for other in forms if other != name}, wishes)

    def wish(self, wish):
        """Adds a wish."""
        if not is_wish(wish):
            raise InvalidWish(wish)
        forms, wishes = self.past.held
        if not holds(wish, forms):
            raise Broken(len(wishes))
        self.keep(forms, wishes + (wish,))

    def lift(self, index):
        """Takes a wish away."""
        forms, wishes = self.past.held
        if not is_within(index, 0, len(wishes) - 1):
            raise InvalidIndex(index)
        self.keep(forms, wishes[:index] + wishes[index + 1:])

    def undo(self):
        """Takes back the last change."""
        if self.past.before is None:
            raise NothingToUndo()
        self.past = self.past.before

    def do_all(self, *deeds, watch=None):
        """Does all deeds, or none; `watch` is called with the shelf behind each of them."""
        for index, deed in enumerate(deeds):
            if not is_deed(deed):
                raise InvalidDeeds(index)
        kept = self.past
        try:
            for deed in deeds:
                self.do(deed)
                if watch is not None:
                    watch(self)
            kept = None
        finally:
            if kept is not None:
                self.past = kept
        return len(deeds)

    def trial(self):
        """For a `with` statement: when its rows end, the shelf is as it was."""
        return Trial(self)

    def tried(self, action):
        """What the action returns, called with the shelf within a trial."""
        with Trial(self) as shelf:
            return action(shelf)

    def do(self, deed):
        if deed[0] == "put":
            self[deed[1]] = deed[2]
        elif deed[0] == "drop":
            self.drop(deed[1])
        elif deed[0] == "wish":
            self.wish(deed[1])
        else:
            self.lift(deed[1])

    def keep(self, forms, wishes):
        self.past = Link((forms, wishes), self.past)


def is_deed(value):
    if not isinstance(value, tuple) or not value or not isinstance(value[0], str):
        return False
    return value[0] in DEED_SIZES and len(value) == DEED_SIZES[value[0]]
