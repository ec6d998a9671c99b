"""What desks and shelves remember: the changes that can be taken back, and where trials have begun."""


class Link:
    """Something that is held, and the link before it. No link ever changes, so the last one keeps all that was."""

    def __init__(self, held, before):
        self.held = held
        self.before = before
        self.depth = 0 if before is None else before.depth + 1


class Trial:
    """For a `with` statement: when its rows end, the desk or shelf is as it was when they began.

    The trial may be entered again before that; so it keeps a link for each entry that has not ended.
    """

    def __init__(self, owner):
        self.owner = owner
        self.kept = None

    def __enter__(self):
        self.kept = Link(self.owner.past, self.kept)
        return self.owner

    def __exit__(self, kind, value, trace):
        self.owner.past = self.kept.held
        self.kept = self.kept.before
