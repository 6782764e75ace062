"""Books that fit: whether several parts can hold together."""

from shownpart.base.worlds import World, check_world, renumbered, tables_of, world_of
from shownpart.books.joining import check_books, joined
from shownpart.closing.closing import is_empty
from shownpart.closing.follows import follow_paper
from shownpart.closing.judge import Judge
from shownpart.errors import InvalidOperation, InvalidWorld, Unfit
from shownpart.growths.growths import is_extended

NEVER = ((), None)


def fits(*books):
    """Whether the books fit."""
    return fits_all(books)


def fits_all(books):
    """Whether the books of a tuple fit."""
    check_books(books)
    return not is_empty(joined(books))


def require_fit(*books):
    """Raise `Unfit` with a paper if the books do not fit."""
    require_fit_all(books)


def require_fit_all(books):
    """Raise `Unfit` with a paper if the books of a tuple do not fit."""
    if not fits_all(books):
        raise Unfit(fit_paper(books))


def fit_paper(books):
    """A paper that shows whether the books of a tuple fit."""
    check_books(books)
    # They fit exactly if what says never does not follow from all of them.
    kind, shown_by = follow_paper(joined(books), NEVER)
    return ("fit", shown_by) if kind == "world" else ("unfit", shown_by)


def is_fit_paper(books, value):
    """Whether the value is a paper that shows whether the books of a tuple fit."""
    check_books(books)
    if not isinstance(value, tuple) or len(value) != 2:
        return False
    whole = joined(books)
    if value[0] == "unfit":
        return Judge(whole, NEVER).accepts(value[1])
    return value[0] == "fit" and isinstance(value[1], World) and value[1].is_world_of(whole)


def first_unfit(books):
    """The least number of books, from the first one on, that do not fit, or `None`."""
    if fits_all(books):
        return None
    # So many fit, and so many do not: with more books it stays so.
    fit = 0
    unfit = len(books)
    while unfit - fit > 1:
        half = (fit + unfit) // 2
        if is_empty(joined(books[:half])):
            unfit = half
        else:
            fit = half
    return unfit


def glued(world, one, other):
    """The growth of a world with the names and the further things of two growths that go together."""
    check_world(world)
    for growth in (one, other):
        if not isinstance(growth, World) or growth.rest != world.rest or not is_extended(world, growth):
            raise InvalidWorld("no growth with an equal rest")
    if not all([name in world for name in one.names if name in other]):
        raise InvalidOperation("a name of both growths that the world does not have")
    behind = one.size - world.size
    numbers = {thing: thing if thing < world.size else thing + behind for thing in range(other.size)}
    tables = tables_of(one)
    further = tables_of(other)
    for name in further:
        table = tables.get(name, {})
        tables[name] = {**table, **renumbered(further[name], numbers)}
    return world_of(one.size + other.size - world.size, world.rest, {**one.names, **other.names}, tables)
