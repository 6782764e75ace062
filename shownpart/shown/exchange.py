"""Exchangeable parts: books that no other part can tell apart."""

from shownpart.base.facts import check_fact, places_in
from shownpart.books.books import Book, book_of, check_book, joined_places
from shownpart.closing.follows import follows, untold_fact
from shownpart.errors import InvalidFact, InvalidOperation
from shownpart.growths.growths import is_visible_fact
from shownpart.shown.limits import check_limits
from shownpart.shown.shown import is_shown, shown


def are_exchangeable(first, second):
    """Whether each book that is apart from both fits with the one exactly if it fits with the other."""
    return parting_fact(first, second) is None


def parting_fact(first, second):
    """A visible fact that follows from exactly one of two comparable books, or `None`."""
    one, other = widened(first, second)
    check_both_limits(one, other)
    found = untold_fact(other, shown(one))
    return untold_fact(one, shown(other)) if found is None else found


def is_parted(first, second, fact):
    """Whether a visible fact follows from exactly one of two comparable books."""
    check_book(first)
    check_book(second)
    check_fact(fact)
    one, other = widened(first, second)
    if not is_visible_fact(one, fact):
        raise InvalidFact("no visible fact of the two books")
    return follows(one, fact) != follows(other, fact)


def exchange_paper(first, second):
    """A paper that shows whether two comparable books are exchangeable."""
    fact = parting_fact(first, second)
    return ("same", shown(widened(first, second)[0])) if fact is None else ("parted", fact)


def is_exchange_paper(first, second, value):
    """Whether the value is a paper that shows whether two comparable books are exchangeable."""
    one, other = widened(first, second)
    if not isinstance(value, tuple) or len(value) != 2:
        return False
    if value[0] == "same" and isinstance(value[1], Book):
        check_both_limits(one, other)
        return is_shown(one, value[1]) and is_shown(other, value[1])
    if value[0] != "parted" or not is_visible_fact(one, value[1]):
        return False
    return is_parted(first, second, value[1])


def part_against(fact):
    """The book that fits with another one exactly if the fact does not follow from that."""
    check_fact(fact)
    facts = [((), pair) for pair in fact[0]]
    if fact[1] is not None:
        facts.append(((fact[1],), None))
    return book_of(facts, (), places_in(fact))


def parting_part(first, second):
    """A book without hidden names that fits with exactly one of two comparable books, or `None`."""
    fact = parting_fact(first, second)
    return None if fact is None else part_against(fact)


def are_comparable(first, second):
    """Whether common names of two books have equal places, and are hidden in both of them or in none."""
    one = first.contents
    other = second.contents
    if joined_places(one.places, other.places) is None:
        return False
    return all([(name in one.secret) == (name in other.secret) for name in one.places if name in other.places])


def widened(first, second):
    """Two comparable books, each with the further visible names of the other one."""
    check_book(first)
    check_book(second)
    if not are_comparable(first, second):
        raise InvalidOperation("books that are not comparable")
    return with_visible_names(first, second), with_visible_names(second, first)


def with_visible_names(book, other):
    """A book with the visible names of another one."""
    further = {name: other.contents.places[name] for name in other.visible}
    return book_of(book.facts, book.hidden, {**book.contents.places, **further})


def check_both_limits(one, other):
    """Raise `TooMany` if too much is hidden in one of two books."""
    check_limits(one, one.contents.secret, [])
    check_limits(other, other.contents.secret, [])
