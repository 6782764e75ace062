"""A board: parts under names, steps that can be undone, and questions that are watched."""

from shownpart.base.worlds import is_whole
from shownpart.board.edits import edited
from shownpart.board.questions import answers_of, check_question, written_question
from shownpart.board.standing import Standing, Trial
from shownpart.books.joining import joined, narrowed
from shownpart.errors import InvalidEdit, InvalidNumber, InvalidOperation, NothingToUndo, TooMany, UnknownName
from shownpart.shown.shown import shown

MAX_PARTS = 12
MAX_QUESTIONS = 20
MAX_KEPT = 1000


class Board:
    """Books under names, each two of them apart."""

    def __init__(self, *, kept=100):
        check_kept(kept)
        # How the board stands. Each change puts another object here.
        self.now = Standing({}, (), (), kept, (), ())

    @property
    def names(self):
        """The ascending tuple of the names of the parts."""
        return tuple(self.now.parts)

    @property
    def steps(self):
        """How many steps can be undone."""
        return len(self.now.done)

    @property
    def kept(self):
        """How many steps can be undone at most."""
        return self.now.limit

    @kept.setter
    def kept(self, value):
        self.keep(value)

    def keep(self, kept):
        """Set how many steps can be undone at most."""
        check_kept(kept)
        self.now = self.now.with_limit(kept)

    def __len__(self):
        return len(self.now.parts)

    def __contains__(self, value):
        return isinstance(value, str) and value in self.now.parts

    def __eq__(self, other):
        return self is other

    def __str__(self):
        return f"board of {len(self.now.parts)} parts, {len(self.now.done)} steps"

    def __getitem__(self, name):
        if not isinstance(name, str) or name not in self.now.parts:
            raise UnknownName(name)
        return self.now.parts[name]

    def __iter__(self):
        raise TypeError("a board is not gone through")

    def do(self, *edits):
        """Make edits as one step, and return the news."""
        return self.do_all(edits)

    def do_all(self, edits):
        """Make the edits of a tuple as one step, and return the news."""
        if not isinstance(edits, tuple):
            raise InvalidEdit("no tuple of edits")
        parts = self.now.parts
        for edit in edits:
            parts = edited(parts, edit)
            if len(parts) > MAX_PARTS:
                raise InvalidEdit("too many parts")
        return self.go_to(parts, (*self.now.done, self.now.parts), ()) if edits else ()

    def undo(self, *, many=1):
        """Undo the last steps, and return the news."""
        done = self.now.done
        check_many(many, len(done))
        if many == 0:
            return ()
        place = len(done) - many
        return self.go_to(done[place], done[:place], (*done[place + 1:], self.now.parts, *self.now.undone))

    def redo(self, *, many=1):
        """Do the last undone steps again, and return the news."""
        undone = self.now.undone
        check_many(many, len(undone))
        if many == 0:
            return ()
        done = (*self.now.done, self.now.parts, *undone[:many - 1])
        return self.go_to(undone[many - 1], done, undone[many:])

    def go_to(self, parts, done, undone):
        """Have other parts and steps, and return the news."""
        now = self.now
        told = answers_of(parts, now.watched)
        self.now = Standing(parts, done, undone, now.limit, now.watched, told)
        return tuple([question for question, one, other in zip(now.watched, now.told, told) if one != other])

    def watch(self, question):
        """Watch a question, and return its answer."""
        check_question(question)
        now = self.now
        place = self.place_of(question)
        if place is not None:
            return now.told[place]
        if len(now.watched) >= MAX_QUESTIONS:
            raise TooMany(MAX_QUESTIONS)
        told = answers_of(now.parts, (question,))
        self.now = now.with_watched((*now.watched, question), (*now.told, *told))
        return told[0]

    def unwatch(self, question):
        """Watch a question no longer."""
        check_question(question)
        now = self.now
        place = self.place_of(question)
        if place is None:
            raise InvalidOperation("a question that is not watched")
        watched = (*now.watched[:place], *now.watched[place + 1:])
        self.now = now.with_watched(watched, (*now.told[:place], *now.told[place + 1:]))

    def place_of(self, question):
        """The place of a question among those that are watched, or `None`."""
        texts = [written_question(other) for other in self.now.watched]
        text = written_question(question)
        return texts.index(text) if text in texts else None

    def answer(self, question):
        """The answer of a question, watched or not."""
        check_question(question)
        return answers_of(self.now.parts, (question,))[0]

    def answers(self):
        """The tuple of the pairs of a watched question and its answer."""
        return tuple(zip(self.now.watched, self.now.told))

    def whole(self):
        """The book of all parts together."""
        return joined(list(self.now.parts.values()))

    def summary(self, *words):
        """A shown book of the whole with all visible names hidden but these."""
        whole = self.whole()
        visible = whole.visible
        for word in words:
            if word not in visible:
                raise UnknownName(word)
        return shown(narrowed(whole, words))

    def trial(self):
        """A block at whose end all of the board is as at its beginning."""
        return Trial(self)

    def attempt(self, action):
        """What an action on the board returns, with the board as it was before."""
        with Trial(self) as same:
            return action(same)


def check_kept(value):
    """Raise `InvalidNumber` if the value is no number of steps to keep."""
    if not is_whole(value) or not 0 <= value <= MAX_KEPT:
        raise InvalidNumber(value)


def check_many(value, steps):
    """Raise an error if the value is no number of steps, or there are fewer."""
    if not is_whole(value) or value < 0:
        raise InvalidNumber(value)
    if value > steps:
        raise NothingToUndo(value)
