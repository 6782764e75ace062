"""How a board stands, and blocks at whose end it stands as at their beginning."""


class Standing:
    """All that a board keeps at one time; nothing in it is ever changed.

    `done` are the parts ahead of each step that can be undone, `undone` those
    behind each step that can be done again, the nearest one first. Steps that
    are more than the limit are forgotten, the oldest ones first.
    """

    def __init__(self, parts, done, undone, limit, watched, told):
        self.parts = parts
        self.done = done[max(0, len(done) - limit):]
        self.undone = undone
        self.limit = limit
        # The questions that are watched, and their answers.
        self.watched = watched
        self.told = told

    def with_watched(self, watched, told):
        """The standing with other questions that are watched."""
        return Standing(self.parts, self.done, self.undone, self.limit, watched, told)

    def with_limit(self, limit):
        """The standing with another number of steps that can be undone at most."""
        return Standing(self.parts, self.done, self.undone, limit, self.watched, self.told)


class Mark:
    """How a board stood at the beginning of a block, and the mark of the block around it."""

    def __init__(self, standing, outer):
        self.standing = standing
        self.outer = outer


class Trial:
    """A block at whose end a board is as at its beginning."""

    def __init__(self, owner):
        self.owner = owner
        self.mark = None

    def __enter__(self):
        self.mark = Mark(self.owner.now, self.mark)
        return self.owner

    def __exit__(self, kind, value, trace):
        owner = self.owner
        owner.now = self.mark.standing
        self.mark = self.mark.outer
