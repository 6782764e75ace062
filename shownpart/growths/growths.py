"""Growths of worlds in which books with hidden names hold."""

from shownpart.base.facts import is_fact, places_in
from shownpart.base.terms import check_term_over, has_names
from shownpart.base.walks import order_of
from shownpart.base.worlds import World, check_world, number_of_rows, tables_of, without_rest, world_of
from shownpart.books.books import check_book, stands_hidden
from shownpart.closing.follows import follow_paper
from shownpart.closing.judge import Judge
from shownpart.closing.rules import fact_from, reduced
from shownpart.errors import InvalidOperation, InvalidWorld
from shownpart.growths.meeting import Meeting
from shownpart.growths.over import Over


def carries(book, world):
    """Whether some growth of the world has all names of the book, and the book holds in it."""
    check_world_for(book, world)
    return not Over(book, world, []).is_broken


def grown(book, world):
    """The free growth, or `None` if the world does not carry the book."""
    check_world_for(book, world)
    over = Over(book, world, [])
    return None if over.is_broken else free_growth(book, world, over)


def is_growth(book, world, value):
    """Whether the value is a growth of the world with all names of both, in which the book holds."""
    check_world_for(book, world)
    return isinstance(value, World) and is_extended(world, value) and value.is_world_of(book)


def images(book, world, growth):
    """The tuple with the image of each thing of the free growth in another growth."""
    if not is_growth(book, world, growth):
        raise InvalidOperation("no growth in which the book holds")
    values = growth.values_of(book.contents.table)
    over = Over(book, world, [])
    new = new_things(book, world, over)
    firsts = {}
    for number in over.own:
        leader = over.division.leaders[number]
        if leader in new:
            firsts[new[leader]] = values[number]
    return tuple(list(range(world.size)) + [firsts[thing] for thing in sorted(firsts)])


def growth_paper(book, world):
    """A paper that shows whether the world carries the book."""
    check_world_for(book, world)
    over = Over(book, world, [])
    if not over.is_broken:
        return ("growth", free_growth(book, world, over))
    meeting = Meeting(book, world, None)
    fact = fact_from(meeting.store, reduced(meeting.base, meeting.rules, meeting.clash))
    return ("fact", fact, follow_paper(book, fact)[1])


def is_growth_paper(book, world, value):
    """Whether the value is a paper that shows whether the world carries the book."""
    check_world_for(book, world)
    if not isinstance(value, tuple) or len(value) not in (2, 3):
        return False
    if len(value) == 2:
        return value[0] == "growth" and is_growth(book, world, value[1])
    if value[0] != "fact" or not is_visible_fact(book, value[1]):
        return False
    return not world.holds(value[1]) and Judge(book, value[1]).accepts(value[2])


def value_at(book, world, term):
    """The thing that a term has as its value in all growths in which the book holds, or `None`."""
    check_world_for(book, world)
    check_term_over(term, {**world.names, **book.contents.places})
    over = Over(book, world, [term])
    if over.is_broken:
        raise InvalidOperation("the world does not carry the book")
    return over.thing_of(over.store.number_of(term))


def check_world_for(book, world):
    """Raise an error if the world has not all visible names of the book, or one of its hidden names."""
    check_book(book)
    check_world(world)
    places = {name: book.contents.places[name] for name in book.visible}
    if not has_names(world.names, places) or stands_hidden(book.contents.secret, world.names):
        raise InvalidWorld("no visible name, one with other places, or a hidden name")


def is_visible_fact(book, value):
    """Whether the value is a fact over visible names of the book."""
    if not is_fact(value):
        return False
    places = places_in(value)
    return has_names(book.contents.places, places) and not stands_hidden(book.contents.secret, places)


def is_extended(world, growth):
    """Whether a world has all things and names of another one, with equal values at its things."""
    if growth.size < world.size or not has_names(growth.names, world.names):
        return False
    tables = tables_of(world)
    further = tables_of(growth)
    for name, places in world.names.items():
        table = tables[name]
        inner = [things for things in further[name] if all([thing < world.size for thing in things])]
        told = {things: True for things in [*table, *inner]}
        if not all([world.looked_up(name, things) == growth.looked_up(name, things) for things in told]):
            return False
        # All other rows lead to the rests.
        if world.rest != growth.rest and len(told) < number_of_rows(world.size, {name: places}):
            return False
    return True


def new_things(book, world, over):
    """A dict from the leaders of the classes without a thing to the further things of the free growth."""
    leaders = over.division.leaders
    new = {}
    for number in order_of(book.contents.table):
        leader = leaders[number]
        if leader not in over.things and leader not in new:
            new[leader] = world.size + len(new)
    return new


def free_growth(book, world, over):
    """The free growth of a world that carries the book."""
    leaders = over.division.leaders
    things = {**over.things, **new_things(book, world, over)}
    tables = tables_of(world)
    for name in book.hidden:
        tables[name] = {}
    for number in over.own:
        row = over.store.table[number]
        below = tuple([things[leaders[part]] for part in row[1:]])
        tables[row[0]][below] = things[leaders[number]]
    size = world.size + len(things) - len(over.things)
    tables = {name: without_rest(tables[name], world.rest) for name in tables}
    return world_of(size, world.rest, {**world.names, **book.contents.places}, tables)
