"""Settled terms: those that are equal to one visible term wherever a book and some conditions hold."""

from shownpart.base.facts import pairs_of
from shownpart.base.terms import check_term_over
from shownpart.base.worlds import World, renumbered, tables_of, world_of
from shownpart.books.books import check_book
from shownpart.closing.closing import Closing
from shownpart.closing.division import Store, division_of
from shownpart.closing.follows import choices, follow_paper
from shownpart.closing.judge import Judge
from shownpart.closing.readings import shortest_nodes
from shownpart.closing.rules import joined_by
from shownpart.errors import InvalidFact, TooMany
from shownpart.growths.growths import is_visible_fact
from shownpart.shown.cases import hidden_terms, is_visible_term

MAX_PAIRS = 8


def settles(book, term, *, conditions=()):
    """A visible term that settles a term under conditions, or `None`."""
    check_asked(book, term, conditions)
    closing = Closing.of(book, conditions, (term,))
    return None if closing.has_failed else closing.reading(term)


def is_settled(book, term, value, *, conditions=()):
    """Whether the value is a visible term that settles a term under conditions."""
    check_asked(book, term, conditions)
    if not is_visible_term(book, value):
        return False
    closing = Closing.of(book, conditions, (term, value))
    return not closing.has_failed and closing.equal(term, value)


def settling_paper(book, term, *, conditions=()):
    """A paper that shows whether a term is settled under conditions, or that these never hold."""
    check_asked(book, term, conditions)
    closing = Closing.of(book, conditions, (term,))
    if closing.has_failed:
        return ("never", follow_paper(book, (conditions, None))[1])
    reading = closing.reading(term)
    if reading is None:
        one, other = worlds_apart(closing, book)
        return ("open", one, other)
    pairs = pairs_of([(term, reading)])
    rows = follow_paper(book, (conditions, pairs[0]))[1] if pairs else ()
    return ("settled", reading, rows)


def is_settling_paper(book, term, value, *, conditions=()):
    """Whether the value is a paper that shows whether a term is settled under conditions."""
    check_asked(book, term, conditions)
    if not isinstance(value, tuple) or len(value) not in (2, 3):
        return False
    if len(value) == 2:
        return value[0] == "never" and Judge(book, (conditions, None)).accepts(value[1])
    if value[0] == "open":
        return are_worlds_apart(book, term, conditions, value[1], value[2])
    if value[0] != "settled" or not is_settled(book, term, value[1], conditions=conditions):
        return False
    pairs = pairs_of([(term, value[1])])
    return Judge(book, (conditions, pairs[0])).accepts(value[2]) if pairs else value[2] == ()


def ways_to_settle(book, term, pairs):
    """The ascending tuples of some of the pairs under which a term is settled, but not under fewer of them."""
    check_asked(book, term, pairs)
    if len(pairs) > MAX_PAIRS:
        raise TooMany(MAX_PAIRS)
    store = Store(book.contents.table)
    number = store.number_of(term)
    couples = store.numbers_of_pairs(pairs)
    base = division_of(store, book.contents.rules, [])
    found = []
    for way in choices(len(pairs)):
        if not any([all([place in way for place in shorter]) for shorter in found]):
            division = joined_by(base, book.contents.rules, [couples[place] for place in way])
            if division.broken is None and division.leaders[number] in shortest_nodes(division, book.contents.secret):
                found.append(way)
    # The pairs are ascending, so their places have the order of the pairs.
    return tuple([tuple([pairs[place] for place in way]) for way in sorted(found)])


def settled_terms(book):
    """The pairs of a hidden term of the book and a visible term that settles it, or `None`."""
    terms = hidden_terms(book)
    closing = Closing(book)
    return tuple([(term, None if closing.has_failed else closing.reading(term)) for term in terms])


def check_asked(book, term, conditions):
    """Raise an error if a book, a term over its names, or conditions over its visible names are wrong."""
    check_book(book)
    check_term_over(term, book.contents.places)
    if not is_visible_fact(book, (conditions, None)):
        raise InvalidFact("no ascending tuple of pairs over visible names")


def worlds_apart(closing, book):
    """Two worlds in which all that is known in a closing is the same, and nothing else.

    Both have the things of the closed world, and each thing of a hidden class
    once more. Visible names are at the second ones what they are at the first
    ones; hidden names are told in each world for one of both alone.
    """
    world = closing.world()
    numbers = {thing: thing for thing in range(world.size)}
    for k, thing in enumerate(closing.hidden_things()):
        numbers[thing] = world.size + k
    first = tables_of(world)
    second = {name: renumbered(first[name], numbers) for name in first}
    size = world.size + len(closing.hidden_things())
    worlds = []
    for told in (first, second):
        tables = {name: told[name] for name in book.hidden}
        for name in book.visible:
            tables[name] = {**first[name], **second[name]}
        worlds.append(world_of(size, world.rest, book.contents.places, tables))
    return worlds


def are_worlds_apart(book, term, conditions, one, other):
    """Whether two values are worlds that agree in all that is visible, and differ in a term."""
    for world in (one, other):
        if not isinstance(world, World) or not world.is_world_of(book):
            return False
        if not all([world.value_of(first) == world.value_of(second) for first, second in conditions]):
            return False
    if one.size != other.size or one.rest != other.rest or one.value_of(term) == other.value_of(term):
        return False
    tables = tables_of(one)
    further = tables_of(other)
    return all([tables[name] == further[name] for name in book.visible])
