"""Pieces of code: steps over registers, and the books that say what a run does."""

from shownpart.base.terms import by_name, has_names, is_name, joint_places
from shownpart.base.walks import written
from shownpart.base.worlds import check_world, is_thing, names_told
from shownpart.books.books import joined_places
from shownpart.code.steps import any_steps, changed_in, is_step, ran, terms_in
from shownpart.code.track import told_book
from shownpart.errors import InvalidCode, InvalidNumber, InvalidOperation, InvalidWorld
from shownpart.shown.exchange import are_exchangeable, exchange_paper, is_exchange_paper
from shownpart.shown.shown import shown

MAX_STEPS = 20
MAX_REGISTERS = 100


class Piece:
    """Steps over registers, of which some are passed, and some are returned."""

    MAX_LETTERS = 5

    def __init__(self, *steps, ins=(), outs=()):
        if not all([is_step(step) for step in steps]):
            raise InvalidCode("no step")
        if not are_ascending_names(ins) or not are_ascending_names(outs):
            raise InvalidCode("no ascending tuple of registers")
        registers = {name: True for name in sorted([*ins, *outs, *changed_in(steps)])}
        places = joint_places([*terms_in(steps), *[(name,) for name in registers]])
        if places is None or not are_names_of_code(places, registers):
            raise InvalidCode("a name that is too long, has unlike places, or is needed in the book")
        if len(steps) > MAX_STEPS or len(registers) > MAX_REGISTERS:
            raise InvalidCode("too many steps or registers")
        self._steps = tuple(steps)
        self._ins = tuple(ins)
        self._outs = tuple(outs)
        self._registers = tuple(registers)
        self._names = by_name({name: places[name] for name in places if name not in registers})
        # Terms are compared by their texts, since they can have any number of levels.
        self._key = (self._ins, self._outs, tuple([key_of_step(step) for step in steps]))

    @classmethod
    def of(cls, steps, ins, outs):
        """The piece of a tuple of steps, and of the registers that are passed and returned."""
        if not isinstance(steps, tuple):
            raise InvalidCode("no tuple of steps")
        return cls(*steps, ins=ins, outs=outs)

    @property
    def steps(self):
        """The tuple of the steps."""
        return self._steps

    @property
    def ins(self):
        """The ascending tuple of the registers that are passed."""
        return self._ins

    @property
    def outs(self):
        """The ascending tuple of the registers that are returned."""
        return self._outs

    @property
    def registers(self):
        """The ascending tuple of all registers."""
        return self._registers

    @property
    def names(self):
        """A dict from the constants and functions to their places."""
        return dict(self._names)

    def __len__(self):
        return len(self._steps)

    def __eq__(self, other):
        return isinstance(other, Piece) and self._key == other._key

    def __str__(self):
        return f"piece of {len(self._steps)} steps: {names_told(self._ins)} to {names_told(self._outs)}"

    def __add__(self, other):
        if not isinstance(other, Piece) or not all([name in self._outs for name in other._ins]):
            raise InvalidOperation("no piece, or one to which more is passed than is returned ahead of it")
        if not go_together(self, other):
            raise InvalidOperation("names that do not go together")
        # What is neither passed nor set ahead has to stay a register with any thing.
        kept = [name for name in self._outs if name not in self._ins and name not in changed_in(self._steps)]
        begun = [name for name in other._registers if name not in other._ins]
        steps = [*any_steps(kept), *self._steps, *any_steps(begun), *other._steps]
        return Piece(*steps, ins=self._ins, outs=other._outs)

    def book(self):
        """The book that says what one run does."""
        return told_book(self)

    def summary(self):
        """A shown book of the book."""
        return shown(told_book(self))

    def run(self, world, *things, given=()):
        """The values of the registers that are returned, or `None` if a step does not go on."""
        check_world(world)
        if not has_names(world.names, self._names):
            raise InvalidWorld("a constant or function that the world does not have, or with other places")
        check_things(world, things, len(self._ins))
        if not isinstance(given, tuple):
            raise InvalidNumber(given)
        begun = [name for name in self._registers if name not in self._ins]
        check_things(world, given, len(begun) + len([step for step in self._steps if step[0] == "any"]))
        held = dict(zip([*self._ins, *begun], [*things, *given]))
        told = ran(self._steps, world, held, given[len(begun):])
        return None if told is None else tuple([told[name] for name in self._outs])


def are_interchangeable(one, other):
    """Whether no code around two pieces tells one from the other."""
    first, second = books_of_pieces(one, other)
    return are_exchangeable(first, second)


def code_paper(one, other):
    """An exchange paper of the books of two pieces."""
    first, second = books_of_pieces(one, other)
    return exchange_paper(first, second)


def is_code_paper(one, other, value):
    """Whether the value is an exchange paper of the books of two pieces."""
    first, second = books_of_pieces(one, other)
    return is_exchange_paper(first, second, value)


def books_of_pieces(one, other):
    """The books of two pieces with equal registers that are passed and returned, whose names go together."""
    for value in (one, other):
        if not isinstance(value, Piece):
            raise InvalidCode("no piece")
    if one.ins != other.ins or one.outs != other.outs or not go_together(one, other):
        raise InvalidOperation("other registers, or names that do not go together")
    return one.book(), other.book()


def go_together(one, other):
    """Whether the names of two pieces can stand in one piece, and no register of one is another name of the other."""
    for piece, beside in ((one, other), (other, one)):
        if not all([name not in beside.names for name in piece.registers]):
            return False
    places = joined_places(one.names, other.names)
    registers = [*one.registers, *other.registers]
    return places is not None and are_names_of_code([*places, *registers], registers)


def are_names_of_code(names, registers):
    """Whether names are short enough, and none of them is a name that the book of a piece gives a register."""
    barred = {name + end: True for name in registers for end in ("in", "out")}
    return all([len(name) <= Piece.MAX_LETTERS and name not in barred for name in names])


def are_ascending_names(value):
    """Whether the value is an ascending tuple of names."""
    if not isinstance(value, tuple) or not all([is_name(name) for name in value]):
        return False
    return all([one < other for one, other in zip(value, value[1:])])


def key_of_step(step):
    """The step with texts in the place of terms."""
    return tuple([written(part) if isinstance(part, tuple) else part for part in step])


def check_things(world, things, many):
    """Raise `InvalidNumber` for the first value that is no thing of a world, or if there are not so many."""
    for thing in things:
        if not is_thing(thing, world.size):
            raise InvalidNumber(thing)
    if len(things) != many:
        raise InvalidNumber(len(things))
